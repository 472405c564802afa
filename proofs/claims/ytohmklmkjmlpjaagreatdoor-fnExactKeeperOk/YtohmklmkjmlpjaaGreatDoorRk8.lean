/- Parts. -/
import Derived.Test.YtohmklmkjmlpjaaGreatDoorRk5
namespace Go.Proofs.YtohmklmkjmlpjaaGreatDoor
open Go.Proofs.Tryz
set_option maxHeartbeats 2000000
set_option maxRecDepth 100000
open Go.RowKit
open Mth
variable (a:Option Addr) (cap:Nat) (l:List Pu) {w w':World} {g mb n k:Nat} {G:ByteArray->Pu} {p q:Pu} {key:ByteArray} {dm df ds:Int} {v:Value} {D:DataW Unit}
abbrev rQ (w:World) (g:Nat) (l:List Pu):Prop:=GR.Blk gu 108 w g l
theorem rQ.four {l:List Pu} (h:rQ w g l) (i:Nat) (hi:i < l.length):w.cell? ⟨g,i*4,none⟩=some (.string l[i].k)/\w.cell? ⟨g,i*4+1,none⟩=some (.int .i64 l[i].m)/\w.cell? ⟨g,i*4+2,none⟩=some (.int .i64 l[i].f)/\w.cell? ⟨g,i*4+3,none⟩=some (.int .i64 l[i].s):=
 ⟨by simpa using GR.Blk.cell h aW i hi 0 Aaa,by simpa using GR.Blk.cell h aW i hi 1 Aaa,by simpa using GR.Blk.cell h aW i hi 2 Aaa,by simpa using GR.Blk.cell h aW i hi 3 Aaa⟩
theorem Kv {l:List Pu} (h:rQ w g l) (hb:aI w w'):rQ w' g l:=by
 have hl:=GR.Blk.lt h;unfold rQ GR.Blk at *;rw [hb.block g hl];exact h
theorem Cm (n:Nat) (hn:n<=2000000):∀W:World,(Instr.makeSlice 35 (.int .i64 (n:Int)) (.int .i64 (n:Int))).run prog W= .ok (.slice (some ⟨W.heap.size,0,none⟩) n n) (W.alloc (.cells (GR.flat gu (List.replicate n ⟨ByteArray.empty,0,0,0⟩)).toArray 108)):=by
 obtain⟨i0,hi,hz0,hz1,hz2⟩:=info_parts EI;intro W;have h:=run_make (P:=prog) W 35 108 i0 (.agg (iW ByteArray.empty 0 0 0)) underlying35 hi hz0 .i64 .i64 (n:Int) (n:Int) Aaa Aaa Abd Aaa;rw [hz1] at h;have e:=GR.made_flat gu 4 aW Aaa ⟨ByteArray.empty,0,0,0⟩ (Value.agg (iW ByteArray.empty 0 0 0)).cells rfl n;exact Ef
theorem ae9 (p:Pu) (w:World):Calls prog 112 #[wS p] w (eG w (wS p)):=by
 obtain⟨k,m,f,s⟩:=p;go_in
 go_wp2_with fail;refine bodyPost_ret (v:= .agg (iW k m f s)) (by simp[results,results112,go_sem]) rfl ⟨rfl,?_⟩;exact Vd
theorem aeh (p:Pu) (w:World):Calls prog 129 #[wS p,wS p] w (eG w (.bool true)):=by
 obtain⟨k,m,f,s⟩:=p;go_in
 exact Vb
theorem Cr (l:List Pu) (z:Pu) (k:Nat) (hk:k < l.length):(l.take k++List.replicate (l.length - k) z).set k l[k]=l.take (k+1)++List.replicate (l.length - (k+1)) z:=by
 exact aaH
theorem ac1 (w:World) (hl:l.length<=1048576) (ha:aG w a l):
 Calls prog 60 #[.slice a l.length cap] w λe w'=>e= .returned (.slice (some ⟨w.heap.size,0,none⟩) l.length l.length)/\rQ w' w.heap.size l/\aI w w':=by
 have hmk:=Cm l.length Aaa;have HA:=Hq ha;clear ha;go_in
 go_wp2_with fail;go_loopw [4] (λi wr=>∃k:Nat,k<=l.length/\i= .int .i64 k/\rQ wr w.heap.size (l.take k++List.replicate (l.length - k) ⟨ByteArray.empty,0,0,0⟩)/\aI w wr) (λi _=>l.length - (intOf i).toNat)
 case atStart=>exact ahS
 case round=>
  open ap1 in exact R4
theorem ae6 (p:Pu) (left:Int) (w:World) (h0:0<=left) (h1:left<=1048576) (hk:p.k.size<=maxLen):Calls prog 95 #[wS p,.int .i64 left] w λe w'=>e= .returned (.int .i64 (if (p.k.size:Int)<=left then left - p.k.size else -1))/\aI w w':=by
 obtain⟨k,m,f,s⟩:=p;dsimp only at hk ⊢;unfold maxLen at hk;by_cases hc:(k.size:Int)<=left
 .rw [if_pos hc];have hn:¬(left - (k.size:Int) < 0):=Aaa
  go_in
  exact Ww
 .rw [if_neg hc];have hn:left - (k.size:Int) < 0:=Aaa
  go_in
  exact Ww
theorem aaZ (a b:Option Addr) (ca cb:Nat) (l:List Pu) (w:World) (hl:l.length<=1048600) (ha:aG w a l) (hb:aG w b l):
 Calls prog 74 #[.slice a l.length ca,.slice b l.length cb] w (eG w (.bool true)):=by
 have HA:=Hq ha;have HB:=Hq hb;clear ha hb;go_in
 go_wp2_with fail;go_loopw [5] (λi wr=>∃k:Nat,k<=l.length/\i= .int .i64 k/\aI w wr) (λi _=>l.length - (intOf i).toNat)
 case atStart=>exact AQ
 case round=>
  obtain⟨k,hk,rfl,hbel⟩:=hrel;have cK:=Hq hbel;clear hbel;by_cases hlt:k < l.length
  .obtain⟨g1,o1,rfl,hg1,s0,s1,s2,s3⟩:=aG.four (GR.At.below HA cK) k hlt;obtain⟨g2,o2,rfl,hg2,t0,t1,t2,t3⟩:=aG.four (GR.At.below HB cK) k hlt;generalize l[k]=pu at *;have UA:=Hq (λw1=>aeh pu w1);obtain⟨pk,pm,pf,ps⟩:=pu;dsimp only at s0 s1 s2 s3 t0 t1 t2 t3;go_wp2_with fail
   go_region_held (λw'=>(w'.cell? ⟨g1,o1+k*4,none⟩=some (.string pk)/\w'.cell? ⟨g1,o1+k*4+1,none⟩=some (.int .i64 pm)/\w'.cell? ⟨g1,o1+k*4+2,none⟩=some (.int .i64 pf)/\w'.cell? ⟨g1,o1+k*4+3,none⟩=some (.int .i64 ps))/\w'.cell? ⟨g2,o2+k*4,none⟩=some (.string pk)/\w'.cell? ⟨g2,o2+k*4+1,none⟩=some (.int .i64 pm)/\w'.cell? ⟨g2,o2+k*4+2,none⟩=some (.int .i64 pf)/\w'.cell? ⟨g2,o2+k*4+3,none⟩=some (.int .i64 ps)) (go_keep)
    (first
     |(go_at_call 129;refine(UA _).mono ?_;rintro e w5 ⟨rfl,hb5⟩;have hb6:aI wr w5:=⟨hb5.os,hb5.tape,hb5.output,hb5.size,hb5.block⟩;clear hb5;have fG:=Hq (cK.trans (hb6.mono cK.size));have y0:=(hb6.cell (p:=⟨g1,o1+k*4,none⟩) hg1).trans s0;have y1:=(hb6.cell (p:=⟨g1,o1+k*4+1,none⟩) hg1).trans s1;have y2:=(hb6.cell (p:=⟨g1,o1+k*4+2,none⟩) hg1).trans s2;have y3:=(hb6.cell (p:=⟨g1,o1+k*4+3,none⟩) hg1).trans s3;have z0:=(hb6.cell (p:=⟨g2,o2+k*4,none⟩) hg2).trans t0;have z1:=(hb6.cell (p:=⟨g2,o2+k*4+1,none⟩) hg2).trans t1;have z2:=(hb6.cell (p:=⟨g2,o2+k*4+2,none⟩) hg2).trans t2;have z3:=(hb6.cell (p:=⟨g2,o2+k*4+3,none⟩) hg2).trans t3;clear hb6))
   all_goals
    go_wp2_with fail
    go_roundw
    case rel=>exact⟨k+1,Aaa,Aah,fG⟩
    case measure=>simp[intOf];omega
  .exact R7
theorem Yk (a:Option Addr) (ca:Nat) (l:List Pu) (z0:Int) (w:World) (h0:0<=z0) (h1:z0<=1048576) (hl:l.length<=maxLen) (hks:∀p∈l,p.k.size<=maxLen) (ha:aG w a l):
 Calls prog 40 #[.slice a l.length ca,.int .i64 z0] w λe w'=>∃r:Int,e= .returned (.int .i64 r)/\aI w w'/\(r= -1\/0<=r/\r<=1048576/\l.length<=1048576/\∀p∈l,p.k.size<=1048576):=by
 have HA:=Hq ha;clear ha;unfold maxLen at hl;by_cases hbig:(l.length:Int)<=z0
 .have hn:¬(z0 - (l.length:Int) < 0):=Aaa
  go_in
  go_wp2_with fail;go_loopw [1,5] (λlf i wr=>∃(k:Nat) (z:Int),k<=l.length/\i= .int .i64 k/\lf= .int .i64 z/\0<=z/\z<=1048576/\(∀p∈l.take k,p.k.size<=1048576)/\aI w wr) (λ_ i _=>l.length - (intOf i).toNat)
  case atStart=>exact Wv
  case round=>
   open aqR in exact Jh
 .have hn:z0 - (l.length:Int) < 0:=Aaa
  go_in
  exact Vg
theorem akH (n:Int) (w:World):Calls prog 207 #[.int .i64 n] w λe w'=>e= .returned (.bool (decide (xJ n 0 1000000000)))/\w=w':=by
 by_cases h0:0<=n
 .by_cases h1:n<=1000000000
  .rw [decide_eq_true (show xJ n 0 1000000000 from⟨h0,h1⟩)];exact aaq
  .rw [decide_eq_false (show¬xJ n 0 1000000000 from λh=>h1 h.2)];exact aaq
 .rw [decide_eq_false (show¬xJ n 0 1000000000 from λh=>h0 h.1)];exact aaq
theorem jW (n:Int) (b:Bool) (w:World) (h:qw n=b):Calls prog 207 #[.int .i64 n] w λe w'=>e= .returned (.bool b)/\w=w':=by
 have e:decide (xJ n 0 1000000000)=b:=h;rw [<-e];exact akH n w
theorem zx (s:ByteArray) (b:Bool) (w:World) (h:keyOk s.data.toList=b):Calls prog 204 #[.string s] w λe w'=>e= .returned (.bool b)/\w=w':=by
 rw [<-h];exact Jv s w
theorem abL (p:Pu) (w:World):Calls prog 202 #[wS p] w (eG w (.bool (iy p))):=by
 obtain⟨pk,pm,pf,ps⟩:=p;cases hk:keyOk pk.data.toList
 case' false=>
  have HP:=Hq (show iy ⟨pk,pm,pf,ps⟩=false by simp[iy,hk]);have HK:=Hq (λw1=>zx pk false w1 hk);clear hk;go_in
  go_wp2_with (go_at_call 204;refine(HK _).mono ?_;rintro e w1 ⟨rfl,rfl⟩)
  exact Oh
 have HK:=Hq (λw1=>zx pk true w1 hk);cases h1:qw pm
 case' false=>
  have HP:=Hq (show iy ⟨pk,pm,pf,ps⟩=false by simp[iy,h1]);have H1:=Hq (λw1=>jW pm false w1 h1);clear hk h1;go_in
  go_wp2_with (first|(go_at_call 204;refine(HK _).mono ?_;rintro e w1 ⟨rfl,rfl⟩)|(go_at_call 207;refine(H1 _).mono ?_;rintro e w1 ⟨rfl,rfl⟩))
  exact Oh
 have H1:=Hq (λw1=>jW pm true w1 h1);cases h2:qw pf
 case' false=>
  have HP:=Hq (show iy ⟨pk,pm,pf,ps⟩=false by simp[iy,h2]);have H2:=Hq (λw1=>jW pf false w1 h2);clear hk h1 h2;go_in
  go_wp2_with (first|(go_at_call 204;refine(HK _).mono ?_;rintro e w1 ⟨rfl,rfl⟩)|(go_at_call_of 207 pm;refine(H1 _).mono ?_;rintro e w1 ⟨rfl,rfl⟩)|(go_at_call_of 207 pf;refine(H2 _).mono ?_;rintro e w1 ⟨rfl,rfl⟩))
  exact Oh
 have H2:=Hq (λw1=>jW pf true w1 h2);cases h3:qw ps
 case' false=>
  have HP:=Hq (show iy ⟨pk,pm,pf,ps⟩=false by simp[iy,h3]);have H3:=Hq (λw1=>jW ps false w1 h3);clear hk h1 h2 h3;go_in
  go_wp2_with (first|(go_at_call 204;refine(HK _).mono ?_;rintro e w1 ⟨rfl,rfl⟩)|(go_at_call_of 207 pm;refine(H1 _).mono ?_;rintro e w1 ⟨rfl,rfl⟩)|(go_at_call_of 207 pf;refine(H2 _).mono ?_;rintro e w1 ⟨rfl,rfl⟩)|(go_at_call_of 207 ps;refine(H3 _).mono ?_;rintro e w1 ⟨rfl,rfl⟩))
  exact Oh
 have H3:=Hq (λw1=>jW ps true w1 h3);have g2:0<=pf/\pf<=1000000000:=of_decide_eq_true h2;have g3:0<=ps/\ps<=1000000000:=of_decide_eq_true h3;obtain⟨g20,g21⟩:=g2;obtain⟨g30,g31⟩:=g3;have HP:=Hq (show iy ⟨pk,pm,pf,ps⟩=qw (pf+ps) by simp[iy,hk,h1,h2,h3]);have H4:=Hq (λw1=>jW (pf+ps) _ w1 rfl);clear hk h1 h2 h3;go_in
 go_wp2_with (first|(go_at_call 204;refine(HK _).mono ?_;rintro e w1 ⟨rfl,rfl⟩)|(go_at_call_of 207 pm;refine(H1 _).mono ?_;rintro e w1 ⟨rfl,rfl⟩)|(go_at_call_of 207 pf;refine(H2 _).mono ?_;rintro e w1 ⟨rfl,rfl⟩)|(go_at_call_of 207 ps;refine(H3 _).mono ?_;rintro e w1 ⟨rfl,rfl⟩)|(go_at_call_of 207 (pf+ps);refine(H4 _).mono ?_;rintro e w1 ⟨rfl,rfl⟩))
 exact Oh
theorem EH (p:Pu) (w:World) (hk:p.k.size<=1048576):Calls prog 154 #[wS p] w (eG w (wS p)):=by
 obtain⟨pk,pm,pf,ps⟩:=p;have HC:=Hq (λw1=>clone pk w1 (by dsimp only at hk;omega));clear hk;go_in
 go_wp2_with fail;refine(HC _).mono ?_;rintro e w1 ⟨rfl,hb1⟩;obtain⟨hA,hB,hz,hbel⟩:=Fo.two_blocks hb1;have HB:=Hq hB;have cK:=Hq hbel;obtain⟨⟨p0,p1,p2,p3⟩,q0,q1,q2,q3⟩:=fT hA;obtain⟨⟨r0,r1,r2,r3⟩,s0,s1,s2,s3⟩:=fT hB;clear hb1 hA hB hbel;go_wp2_with fail;clear r0 r1 r2 r3;refine Fo.bodyPost_at (λW' hW'=>?_);obtain⟨⟨r0,r1,r2,r3⟩,_⟩:=fT (show W'.heap[w.heap.size+1]?=some (.cells (iW pk pm pf ps) 108 (0,0)) by rw [hW'];exact Fo.four_set (Fo.one_other HB Aaa));have hbb:aI w W':=by rw [hW'];exact Fo.four_below (cK.setCell (p:=⟨w.heap.size,0,none⟩) (Nat.le_refl _) _) Aaa
 refine bodyPost_ret (v:= .agg (iW pk pm pf ps)) (by simp[results,results154,go_sem,r0,r1,r2,r3]) rfl ⟨rfl,hbb⟩
theorem Ph (key:ByteArray) (w:World) (hl:l.length<=1048600) (hks:∀p∈l,p.k.size<=1048576) (hkey:key.size<=1048576) (ha:aG w a l):
 Calls prog 240 #[.slice a l.length cap,.string key] w (eG w (wS (aD l key))):=by
 have HA:=Hq ha;have Ro:=Hq hks;have jy:=Hq (λw1=>clone key w1 Aaa);clear ha hks;go_in
 go_wp2_with fail;go_loopw [9] (λi wr=>∃k:Nat,k<=l.length/\i= .int .i64 k/\(l.take k).find? (λp=>p.k.toList == key.toList)=none/\aI w wr/\wr.heap[w.heap.size]?=some (.cells (iW ⟨#[]⟩ 0 0 0) 108 (0,0))) (λi _=>l.length - (intOf i).toNat)
 case atStart=>exact⟨0,Nat.zero_le _,rfl,rfl,dS w _,heap_alloc_new w _⟩
 case round=>
  obtain⟨k,hk,rfl,hnone,hbel,hblk⟩:=hrel;have HN:=Hq hnone;have cK:=Hq hbel;have Gc:=Hq hblk;have aev:=Fo.lt_of_blk hblk;clear hnone hbel hblk;by_cases hlt:k < l.length
  .obtain⟨g,off,rfl,hgw,c0,c1,c2,c3⟩:=aG.four (GR.At.below HA cK) k hlt;have hfs:=Jq (λp=>p.k.toList == key.toList) l k hlt HN;have hkk:=ah Ro l[k] (List.getElem_mem hlt);cases hf:l[k].k.toList == key.toList
   .have HX:=Hq (hfs.2 hf);clear hfs HN hkk;open avC in exact aae
   .have HX:=Hq (show aD l key=l[k] by unfold aD;rw [hfs.1 hf];rfl);clear hfs HN;open avd in exact agQ
  .open anB in exact xL
def wK (w:World) (a:Option Addr) (g:Nat) (l:List Pu):Prop:=∀i (hi:i < l.length),a=some ⟨g,0,none⟩/\g < w.heap.size/\∀j,j < 4->w.cell? ⟨g,i*4+j,none⟩=(gu l[i])[j]?/\w.frozen? ⟨g,i*4+j,none⟩=false
theorem wK.at {a:Option Addr} {l:List Pu} (h:wK w a g l):aG w a l:=λi hi=>
 ⟨g,0,(h i hi).1,(h i hi).2.1,λj hj=>by rw [Nat.zero_add];exact((h i hi).2.2 j hj).1⟩
theorem wK.of_blk {l:List Pu} (h:rQ w g l):wK w (some ⟨g,0,none⟩) g l:=λi hi=>
 ⟨rfl,GR.Blk.lt h,λj hj=>⟨GR.Blk.cell h aW i hi j hj,GR.Blk.free h _⟩⟩
theorem wK.nil {a:Option Addr}:wK w a g []:=λi hi=>by simp at hi
theorem wK.below {a:Option Addr} {l:List Pu} (h:wK w a g l) (hb:aI w w'):wK w' a g l:=λi hi=>by
 obtain⟨e,hg,hc⟩:=h i hi;exact⟨e,Nat.lt_of_lt_of_le hg hb.size,λj hj=>⟨(hb.cell (p:=⟨g,i*4+j,none⟩) hg).trans (hc j hj).1,(hb.frozen (p:=⟨g,i*4+j,none⟩) hg).trans (hc j hj).2⟩⟩
theorem wK.keeps {a:Option Addr} {g':Nat} {l:List Pu} (h:wK w a g l) (hk:Keeps g' w w') (hne:l=[]\/g≠g'):wK w' a g l:=by
 rcases hne with rfl|hne
 .exact wK.nil
 .intro i hi;obtain⟨e,hg,hc⟩:=h i hi;exact ahs
theorem wK.four {a:Option Addr} {l:List Pu} (h:wK w a g l) (i:Nat) (hi:i < l.length):a=some ⟨g,0,none⟩/\g < w.heap.size/\(w.cell? ⟨g,i*4,none⟩=some (.string l[i].k)/\w.cell? ⟨g,i*4+1,none⟩=some (.int .i64 l[i].m)/\w.cell? ⟨g,i*4+2,none⟩=some (.int .i64 l[i].f)/\w.cell? ⟨g,i*4+3,none⟩=some (.int .i64 l[i].s))/\w.frozen? ⟨g,i*4,none⟩=false/\w.frozen? ⟨g,i*4+1,none⟩=false/\w.frozen? ⟨g,i*4+2,none⟩=false/\w.frozen? ⟨g,i*4+3,none⟩=false:=by
 exact ag7
theorem uJ:∀(vs:List Value) (w:World) (o:Nat),k < o\/o+vs.length<=k->(GR.setW w g o vs).cell? ⟨g,k,none⟩=w.cell? ⟨g,k,none⟩:=by
 exact ahg
theorem Fz {g:Nat}:∀(vs:List Value) (w:World) (o:Nat),(∀j,j < vs.length->∃v,w.cell? ⟨g,o+j,none⟩=some v)->∀j,j < vs.length->(GR.setW w g o vs).cell? ⟨g,o+j,none⟩=vs[j]?:=by
 intro vs;induction vs with
 |nil=>intro w o _ j hj;simp at hj
 |cons v vs ih=>
  intro w o h j hj;cases j with
  |zero=>
   obtain⟨v0,hv0⟩:=h 0 Aac;rw [Nat.add_zero] at hv0 ⊢;refine(uJ vs (w.setCell ⟨g,o,none⟩ v) (o+1) Aaa).trans ?_;rw [World.cell?_setCell_same _ _ _ hv0];rfl
  |succ j=>
   exact axI
theorem Qr:∀(vs:List Value) (w:World) (o:Nat),(GR.setW w g o vs).frozen? ⟨g,k,none⟩=w.frozen? ⟨g,k,none⟩:=by
 exact ahI
theorem Ya:∀(vs:List Value) (w:World) (o:Nat),(GR.setW w g o vs).heap.size=w.heap.size:=by
 exact ahN
theorem wK.set {a:Option Addr} {l:List Pu} (h:wK w a g l) (k:Nat) (x:Pu) (hk:k < l.length):wK (GR.setW w g (k*4) (gu x)) a g (l.set k x):=λi hi=>by
 have hi':i < l.length:=Aap
 obtain⟨e,hg,hc⟩:=h i hi';refine⟨e,by rw [Ya];exact hg,λj hj=>⟨?_,by rw [Qr];exact(hc j hj).2⟩⟩;by_cases hik:i=k
 .subst hik
  rw [Fz (gu x) w (i*4) (λj' hj'=>by
   have hj4:j' < 4:=by rw [aW] at hj';exact hj'
   have h1:=(hc j' hj4).1
   rw [List.getElem?_eq_getElem (by rw [aW];exact hj4)] at h1
   exact⟨_,h1⟩) j (by rw [aW];exact hj)]
  simp
 .rw [uJ (gu x) w (k*4) (by rw [aW];omega),(hc j hj).1,List.getElem_set_ne Aaa]
open Go.RowKit Go.Maps
theorem OE (w:World) (hl:l.length<=1048600) (ha:aG w a l):
 Calls prog 153 #[.slice a l.length cap] w λe w'=>∃v,e= .returned v/\w'.ownsRow w.heap.size 108 4 v l.length (GR.flat gu l)/\aI w w':=by
 obtain⟨i0,hi,hz0,hz1,hz2⟩:=info_parts EI;have q22:∀(w:World) (a:Option Addr) (n c n' c':Nat),(binOp .eql 35 (.slice a n c) (.slice none n' c')).run prog w= .ok (.bool a.isNone) w:=λw a n c n' c'=>Lib.run_eql_slice_nil w _ _ a n c n' c' underlying35
 open au0 in exact agL
theorem wK.of_own {B:Nat} {l:List Pu} (h:w.ownsRow B 108 4 v l.length (GR.flat gu l)) (hB:B<=w.heap.size):∃a c g,v= .slice a l.length c/\B<=g/\wK w a g l:=by
 obtain⟨a,c,rfl,hat⟩:=GR.own_at aW h;rcases h.2 with⟨hv,hn⟩|⟨g,cap,cur,hv,hg,hblk,_⟩
 .have hl:l=[]:=List.eq_nil_of_length_eq_zero hn;subst hl;exact⟨_,_,w.heap.size,rfl,hB,wK.nil⟩
 .cases hv
  refine⟨_,_,g,rfl,hg,λi hi=>?_⟩;exact aht
theorem O7 (w:World) (hl:l.length<=1048576) (hks:∀p∈l,p.k.size<=1048576) (ha:aG w a l):
 Calls prog 118 #[.slice a l.length cap] w λe w'=>∃a' c' g,w.heap.size<=g/\e= .returned (.slice a' l.length c')/\wK w' a' g l/\aI w w':=by
 have jy:=Hq (OE a cap l w Aaa ha);have Ro:=Hq hks;clear ha hks;go_in
 go_wp2_with fail;refine jy.mono ?_;rintro e w1 ⟨v,rfl,hown,hb1⟩;obtain⟨a',c',g,rfl,hg,hW⟩:=wK.of_own hown hb1.size;have HW:=Hq hW;have HB1:=Hq hb1;clear hown hb1 hW jy;go_wp2_with fail;go_loopw [10] (λi wr=>∃k:Nat,k<=l.length/\i= .int .i64 k/\wK wr a' g l/\aI w wr) (λi _=>l.length - (intOf i).toNat)
 case atStart=>exact⟨0,Nat.zero_le _,rfl,HW,HB1⟩
 case round=>
  obtain⟨k,hk,rfl,hB,hbel⟩:=hrel;have HB:=Hq hB;have cK:=Hq hbel;clear hB hbel;by_cases hlt:k < l.length
  .obtain⟨e0,hgw,⟨q0,q1,q2,q3⟩,_⟩:=wK.four HB k hlt;subst e0;have hkk:=ah Ro l[k] (List.getElem_mem hlt);have hse:l.set k l[k]=l:=List.set_getElem_self hlt;have HSE:=Hq hse;clear hse;open ave in exact agQ
  .open anC in exact xL
namespace Mth
def nothing (p:Pu):Bool:=p.m == 0&&p.f == 0&&p.s == 0
theorem PV (p:Pu):nothing p=true↔p.m=0/\p.f=0/\p.s=0:=by unfold nothing;simp[and_assoc]
def upd (G:ByteArray->Pu) (p:Pu):ByteArray->Pu:=λk=>if k=p.k then p else G k
end Mth
def LZ:Value->Option (DataW Unit×List MemPlace)
 | .agg ⟨[.string k,.int .i64 m,.int .i64 f,.int .i64 s]⟩=>some (.agg [.lit (.string k.data.toList),.lit (.int .i64 m),.lit (.int .i64 f),.lit (.int .i64 s)],[])
 |_=>none
def zU (p:Pu):DataW Unit:= .agg [.lit (.string p.k.data.toList),.lit (.int .i64 p.m),.lit (.int .i64 p.f),.lit (.int .i64 p.s)]
theorem JL (p:Pu):LZ (wS p)=some (zU p,[]):=rfl
theorem Fe {ps:List MemPlace} (h:LZ v=some (zU p,ps)):v=wS p:=by
 unfold LZ at h;split at h
 .rename_i k m f s
  obtain⟨pk,pm,pf,ps⟩:=p;simp only[zU,Option.some.injEq,Prod.mk.injEq,DataW.agg.injEq,List.cons.injEq,DataW.lit.injEq,Lit.string.injEq,Lit.int.injEq,true_and,and_true] at h;obtain⟨⟨h1,h2,h3,h4⟩,_⟩:=h;subst h2 h3 h4;have e:k=pk:=ByteArray.ext (Array.toList_inj.1 h1);rw [e]
 .cases h
abbrev klit (k:ByteArray):Lit:= .string k.data.toList
theorem Dx {a b:ByteArray} (h:a≠b):klit a≠klit b:=λe=>h (by
 injection e with e
 exact ByteArray.ext (Array.toList_inj.1 e))
theorem Tv:Keyed Tryz.prog 9:=string_keyed Tryz.underlying9
theorem abX (s:ByteArray) (hs:s.size<=maxLen):keyOf Tryz.prog 9 (.string s)=some (klit s):=Go.WideMaps.keyOf_string_mk Tryz.underlying9 hs
theorem alj (w:World):(zeroValue 108).run Tryz.prog w= .ok (wS ⟨ByteArray.empty,0,0,0⟩) w:=Aab
def Agr (D:DataW Unit) (G:ByteArray->Pu):Prop:=∀k,(G k).k=k/\Maps.has D (klit k)= !nothing (G k)/\(nothing (G k)=false->∀z,D.atKey (klit k) z=zU (G k))
def iK (w:World) (mb n:Nat) (G:ByteArray->Pu):Prop:=∃D,w.ownsMap Tryz.prog 9 LZ mb n D/\Agr D G
theorem Agr.empty:Agr (.map []) (λk=>⟨k,0,0,0⟩):=λk=>⟨rfl,rfl,λh=>Aat⟩
theorem Agr.put (h:Agr D G) (hD:Maps.IsMap D) (p:Pu) (hp:nothing p=false):Agr (D.put (klit p.k) (zU p)) (upd G p):=by
 intro k;unfold upd;by_cases e:k=p.k
 .rw [if_pos e,e];exact⟨rfl,by rw [has_put_same hD (show WideAt.IsKeyLit (klit p.k) from trivial),hp];rfl,λ_ z=>atKey_put_same hD (show WideAt.IsKeyLit (klit p.k) from trivial) _ z⟩
 .rw [if_neg e];obtain⟨h1,h2,h3⟩:=h k;exact⟨h1,by rw [has_put_other (Dx e),h2],λhn z=>by rw [atKey_put_other (Dx e)];exact h3 hn z⟩
theorem Agr.del (h:Agr D G) (p:Pu) (hp:nothing p=true):Agr (D.del (klit p.k)) (upd G p):=by
 intro k;unfold upd;by_cases e:k=p.k
 .rw [if_pos e,e];exact⟨rfl,by rw [has_del_same,hp];rfl,λhn=>by rw [hp] at hn;cases hn⟩
 .rw [if_neg e];obtain⟨h1,h2,h3⟩:=h k;exact⟨h1,by rw [has_del_other (Dx e),h2],λhn z=>by rw [atKey_del_other (Dx e)];exact h3 hn z⟩
theorem iK.made (w:World):iK (w.alloc (.map #[] 0)) w.heap.size 0 (λk=>⟨k,0,0,0⟩):=⟨_,World.ownsMap_made w _ _ _,Agr.empty⟩
theorem iK.lt (h:iK w mb n G):mb < w.heap.size:=h.choose_spec.1.lt
theorem iK.kept (h:iK w mb n G) (hb:w'.heap[mb]?=w.heap[mb]?):iK w' mb n G:=by
 exact aiE
theorem iK.look (h:iK w mb n G) (k:ByteArray) (hk:k.size<=maxLen):
 (Instr.lookup 349 (.map (some mb)) (.string k) true).run Tryz.prog w= .ok (.tuple #[wS (if nothing (G k) then⟨ByteArray.empty,0,0,0⟩ else G k),.bool (!nothing (G k))]) w:=by
 obtain⟨D,hown,ha⟩:=h;obtain⟨v,ps,hrun,hv⟩:=hown.look_ok Tv Tryz.underlying349 (alj w) (JL _) (abX k hk);obtain⟨_,h2,h3⟩:=ha k;rw [hrun,h2];cases hn:nothing (G k)
 .rw [h3 hn] at hv;rw [Fe hv];rfl
 .rw [hn] at h2;rw [atKey_of_not_has h2] at hv;rw [Fe hv];rfl
theorem nV {b:Nat} (h:w.mapTurned w' b):_root_.Go.Proofs.YtohmklmkjmlpjaaGreatDoor.Keeps b w w':=by
 have g:=h.grown;exact⟨g.os,g.tape,g.output,g.size,λk hk hne=>g.block k hk (λe=>hne (Option.some.inj e))⟩
theorem iK.store (h:iK w mb n G) (p:Pu) (hk:p.k.size<=maxLen) (hn:n < maxLen) (hp:nothing p=false):
 ∃w',(Instr.mapUpdate 349 (.map (some mb)) (.string p.k) (wS p)).run Tryz.prog w= .ok () w'/\iK w' mb (n+1) (upd G p)/\Keeps mb w w':=by
 obtain⟨D,hown,ha⟩:=h;obtain⟨w',hrun,h1,h2⟩:=hown.store Tv Tryz.underlying349 hn (abX p.k hk) (JL p);exact⟨w',hrun,⟨_,h1,ha.put hown.isMap p hp⟩,nV h2⟩
theorem iK.drop (h:iK w mb n G) (p:Pu) (hk:p.k.size<=maxLen) (hp:nothing p=true) (ty:TypeId):
 ∃w',(Builtin.delete_ #[349,9] ty #[.map (some mb),.string p.k]).run Tryz.prog w= .ok (.tuple #[]) w'/\iK w' mb n (upd G p)/\Keeps mb w w':=by
 obtain⟨D,hown,ha⟩:=h;obtain⟨w',hrun,h1,h2⟩:=hown.drop Tv Tryz.underlying349 (abX p.k hk) ty;exact⟨w',hrun,⟨_,h1,ha.del p hp⟩,nV h2⟩
namespace Mth
theorem toList_inj {a b:ByteArray} (h:a.toList=b.toList):a=b:=by
 rw [ByteArray.toList_eq,ByteArray.toList_eq] at h;exact ByteArray.ext (Array.toList_inj.1 h)
theorem oV (l:List Pu) (k:ByteArray):(aD l k).k=k:=by
 unfold aD;cases h:l.find? (λp=>p.k.toList == k.toList) with
 |none=>rfl
 |some q=>
  have:=List.find?_some h;exact toList_inj (by simpa using this)
theorem qJ {l:List Pu} (hp:l.Pairwise Lv) (hq:q∈l):aD l q.k=q:=by
 unfold aD
 have:l.find? (λp=>p.k.toList == q.k.toList)=some q:=by
  induction l with
  |nil=>simp at hq
  |cons x r ih=>
   rw [List.find?_cons];rcases List.mem_cons.1 hq with rfl|hq'
   .simp
   .have hx:x.k.toList < q.k.toList:=(List.pairwise_cons.1 hp).1 q hq'
    have hne:(x.k.toList == q.k.toList)=false:=by
     rw [beq_eq_false_iff_ne];intro e;rw [e] at hx;exact List.lt_irrefl _ hx
    rw [hne];exact ih (List.pairwise_cons.1 hp).2 hq'
 rw [this];rfl
theorem L9 {l:List Pu} {k:ByteArray} (h:∀q∈l,q.k≠k):aD l k=⟨k,0,0,0⟩:=by
 unfold aD
 have:l.find? (λp=>p.k.toList == k.toList)=none:=by
  rw [List.find?_eq_none];intro q hq;simp only[beq_iff_eq];exact λe=>h q hq (toList_inj e)
 rw [this];rfl
theorem aiS {a b:ByteArray} (h:a.toList < b.toList):a≠b:=λe=>by rw [e] at h;exact List.lt_irrefl _ h
theorem aeU {l:List Pu} (hp:l.Pairwise Lv) (p:Pu):(jd l p).map (λq=>upd (aD l) p q.k)=jd l p:=by
 have:∀q∈jd l p,upd (aD l) p q.k=q:=by
  intro q hq;unfold jd at hq;unfold upd;rcases List.mem_append.1 hq with hq|hq
  .rw [if_neg (aiS (zq hq))];exact qJ hp ((List.takeWhile_sublist _).mem hq)
  .rcases List.mem_cons.1 hq with rfl|hq
   .rw [if_pos rfl]
   .rw [if_neg (Ne.symm (aiS (MJ hp q hq)))];exact qJ hp ((List.dropWhile_sublist _).mem (FW l p.k q hq))
 exact(List.map_congr_left (g:=id) this).trans (List.map_id _)
def place (l:List Pu) (k:ByteArray):Nat:=(rG l k).length
theorem lT (l:List Pu) (k:ByteArray):place l k<=l.length:=by
 have h:=congrArg List.length (vY l k);rw [List.length_append] at h;unfold place;omega
theorem head_take (l:List Pu) (k:ByteArray):rG l k=l.take (place l k):=by
 have h:=vY l k;have:(rG l k++kJ l k).take (place l k)=rG l k:=by unfold place;simp
 rw [h] at this;exact this.symm
theorem jw (l:List Pu) (k:ByteArray):kJ l k=l.drop (place l k):=by
 have h:=vY l k;have:(rG l k++kJ l k).drop (place l k)=kJ l k:=by unfold place;simp
 rw [h] at this;exact this.symm
def found (l:List Pu) (k:ByteArray):Bool:=match kJ l k with
 |[]=>false
 |q::_=>q.k.toList == k.toList
theorem vK {l:List Pu} {p:Pu} (h:found l p.k=true):(jd l p).map (·.k)=l.map (·.k):=by
 have hl:=vY l p.k;unfold found at h;unfold jd kC;cases hf:kJ l p.k with
 |nil=>rw [hf] at h;cases h
 |cons q r=>
  rw [hf] at h hl;dsimp only at h ⊢;rw [if_pos h];rw [<-hl];have e:q.k=p.k:=toList_inj Abc;simp[rG,e];rw [show List.takeWhile (λq=>Op.bytesLess q.k.toList p.k.toList) l=rG l p.k from rfl,hl];rfl
theorem rR {l:List Pu} (h:found l p.k=true):(jd l p).length=l.length:=by
 have:=congrArg List.length (vK h);simpa using this
theorem xw {l:List Pu} {p:Pu} (h:found l p.k=false):jd l p=l.take (place l p.k)++p::l.drop (place l p.k):=by
 unfold jd;rw [head_take,<-jw];congr 2
 unfold found at h;unfold kC;cases hf:kJ l p.k with
 |nil=>rfl
 |cons q r=>
  rw [hf] at h;dsimp only at h ⊢;rw [h];rfl
theorem vL {l:List Pu} (h:found l p.k=false):(jd l p).length=l.length+1:=by
 rw [xw h];have:=lT l p.k;simp;omega
def vF (l:List Pu) (k:ByteArray) (t:Nat):ByteArray:=(l[t]?).elim k (·.k)
theorem aaO {l:List Pu} (hp:l.Pairwise Lv) (k:ByteArray):Lib.bsGo (λt=>Op.bytesLess (vF l k t).toList k.toList) l.length 0 l.length=place l k:=by
 refine Lib.bsGo_spec _ (place l k) ?_ ?_ _ _ _ Aaa (Nat.zero_le _) (lT l k)
 .intro t ht;have ht2:t < l.length:=Nat.lt_of_lt_of_le ht (lT l k)
  have hm:l[t]∈rG l k:=by
   rw [head_take];exact List.mem_take_iff_getElem.2 ⟨t,Aaa,rfl⟩
  unfold vF;rw [List.getElem?_eq_getElem ht2];exact(pW _ _).2 (zq hm)
 .intro t ht;by_cases ht2:t < l.length
  .unfold vF;rw [List.getElem?_eq_getElem ht2];show Op.bytesLess l[t].k.toList k.toList=false
   rw [Bool.eq_false_iff];intro hlt;have hlt':=(pW _ _).1 hlt;have hp0:place l k < l.length:=Aaa
   have hf:kJ l k=l[place l k]::l.drop (place l k+1):=by rw [jw,List.drop_eq_getElem_cons hp0]
   have h1:=Bc l k _ _ hf;rcases Nat.lt_or_ge (place l k) t with h|h
   .have h2:l[place l k].k.toList < l[t].k.toList:=List.pairwise_iff_getElem.1 hp _ _ hp0 ht2 h;exact h1 (List.lt_trans h2 hlt')
   .have e:t=place l k:=Aaa
    subst e;exact h1 hlt'
  .unfold vF;rw [List.getElem?_eq_none Aaa];show Op.bytesLess k.toList k.toList=false
   rw [Bool.eq_false_iff];intro h;exact List.lt_irrefl _ ((pW _ _).1 h)
theorem Ow (l:List Pu) (k:ByteArray):decide (place l k < l.length/\vF l k (place l k)=k)=found l k:=by
 by_cases h:place l k < l.length
 .have hf:kJ l k=l[place l k]::l.drop (place l k+1):=by rw [jw,List.drop_eq_getElem_cons h]
  have hfo:found l k=(l[place l k].k.toList == k.toList):=by unfold found;rw [hf]
  have hka:vF l k (place l k)=l[place l k].k:=by unfold vF;rw [List.getElem?_eq_getElem h];rfl
  rw [hfo,Bool.eq_iff_iff,decide_eq_true_iff,beq_iff_eq,hka];exact⟨λe=>by rw [e.2],λe=>⟨h,toList_inj e⟩⟩
 .have hf:kJ l k=[]:=by rw [jw];exact List.drop_eq_nil_of_le Aaa
  unfold found;rw [hf];exact decide_eq_false λe=>h e.1
end Mth
namespace Mth
def eP (p:Pu) (dm df ds n:Int):Pu:=⟨p.k,p.m+dm*n,p.f+df*n,p.s+ds*n⟩
end Mth
namespace Mth
def dJ (l:List Pu) (key:ByteArray) (dm df ds n:Int):List Pu×Bool:=qQ l (eP (aD l key) dm df ds n) n
theorem akT {l:List Pu} (hp:l.Pairwise Lv) (p:Pu):∀q∈jd l p,upd (aD l) p q.k=q:=by
 intro q hq;obtain⟨i,hi,rfl⟩:=List.mem_iff_getElem.1 hq;have h:=aeU hp p;have h2:=congrArg (λx=>x[i]?) h;simp only[List.getElem?_map,List.getElem?_eq_getElem hi,Option.map_some,Option.some.injEq] at h2;exact h2
theorem put_mem {l:List Pu} (h:q∈jd l p):q=p\/q∈l:=by
 exact ahh
theorem Jj {l:List Pu} {n:Int} (h:jk l=false):dJ l key dm df ds n=(l,false):=by
 unfold dJ qQ;rw [h];rfl
theorem Kt {l:List Pu} {n:Int} (h:¬(1<=n/\n<=1000000000)):dJ l key dm df ds n=(l,false):=by
 unfold dJ qQ;rw [decide_eq_false h];simp
theorem Kr {l:List Pu} {n:Int} (h:jk l=true) (hn:1<=n/\n<=1000000000):
 dJ l key dm df ds n=if iy (eP (aD l key) dm df ds n)&&decide ((jd l (eP (aD l key) dm df ds n)).length<=20) then(jd l (eP (aD l key) dm df ds n),true) else(l,false):=by
 unfold dJ qQ;rw [acy _ h,h,decide_eq_true hn];rfl
theorem Yb {l:List Pu} {n:Int} (h:keyOk key.data.toList=false):iy (eP (aD l key) dm df ds n)=false:=by
 unfold iy;have:(eP (aD l key) dm df ds n).k=key:=oV l key;rw [this,h];rfl
theorem yx {l:List Pu} {key:ByteArray} (h:jk l=true) (hk:keyOk key.data.toList=true):iy (aD l key)=true:=by
 obtain⟨h1,_,_⟩:=(jR l).1 h;unfold aD;cases hf:l.find? (λp=>p.k.toList == key.toList) with
 |none=>simp[iy,qw,hk]
 |some q=>exact h1 q (List.mem_of_find?_eq_some hf)
theorem sQ {d n:Int} (hd:d= -1\/d=0\/d=1) (hn:1<=n/\n<=1000000000): -1000000000<=d*n/\d*n<=1000000000:=by
 rcases hd with rfl|rfl|rfl<;>omega
end Mth
theorem Pf (p:Pu) (w:World):Calls Tryz.prog 309 #[wS p] w (eG w (.bool (nothing p))):=by
 obtain⟨pk,pm,pf,ps⟩:=p;go_in
 go_wp2
 all_goals
  go_ret
  exact⟨by simp[nothing, *],dS w _⟩
theorem lW {a0 a1:Value} {t:TypeId} (h:w.heap[g]?=some (.cells #[a0,a1] t (0,0))):
 (w.cell? ⟨g,0,none⟩=some a0/\w.cell? ⟨g,1,none⟩=some a1)/\(w.frozen? ⟨g,0,none⟩=false/\w.frozen? ⟨g,1,none⟩=false):=by
 have hc:∀i,w.cell? ⟨g,i,none⟩=#[a0,a1][i]?:=λi=>cell_of_row w g i _ t (0,0) h
 have hf:∀i,w.frozen? ⟨g,i,none⟩=false:=λi=>by unfold World.frozen?;rw [h];simp
 exact⟨⟨hc 0,hc 1⟩,hf 0,hf 1⟩
theorem iK.mono {n':Nat} (h:iK w mb n G) (hn:n<=n'):iK w mb n' G:=by
 obtain⟨D,h1,h2⟩:=h;exact⟨D,h1.mono hn,h2⟩
theorem Vq (mp mb n:Nat) (v:Value) (G:ByteArray->Pu) (p:Pu) (w:World) (hk:p.k.size<=1048576) (hn:n < maxLen) (hm:w.heap[mp]?=some (.cells #[v,.map (some mb)] 352 (0,0))) (hM:iK w mb n G):
 Calls Tryz.prog 301 #[.pointer (some ⟨mp,0,none⟩),wS p] w λe w'=>e= .returned (.tuple #[])/\iK w' mb (n+1) (upd G p)/\Keeps mb w w':=by
 have HN:=Hq (λw1=>Pf p w1);have HM:=Hq hm;have HI:=Hq hM;have hkm:p.k.size<=maxLen:=Aai
 have hmp:=Fo.lt_of_blk hm;have hmb:=hM.lt;cases hno:nothing p
 .obtain⟨pk,pm,pf,ps⟩:=p;have HST:=Hq (λw1 h=>iK.store (w:=w1) (mb:=mb) (n:=n) (G:=G) h ⟨pk,pm,pf,ps⟩ hkm hn hno);open aqu in exact awJ
 .obtain⟨pk,pm,pf,ps⟩:=p;have HST:=Hq (λw1 ty h=>iK.drop (w:=w1) (mb:=mb) (n:=n) (G:=G) h ⟨pk,pm,pf,ps⟩ hkm hno ty);open aqt in exact awJ
theorem Le (mp mb n:Nat) (v:Value) (G:ByteArray->Pu) (k:ByteArray) (w:World) (hk:k.size<=1048576) (hm:w.heap[mp]?=some (.cells #[v,.map (some mb)] 352 (0,0))) (hM:iK w mb n G):
 Calls Tryz.prog 302 #[.pointer (some ⟨mp,0,none⟩),.string k] w (eG w (wS (G k))):=by
 have hmp:=Fo.lt_of_blk hm;have hmb:=hM.lt;obtain⟨⟨m0,m1⟩,_⟩:=lW hm;have hGk:=(hM.choose_spec.2 k).1;have hrun:=(iK.kept (w':=w.alloc (.cells (iW ⟨#[]⟩ 0 0 0) 108)) hM (by rw [Below.heap_alloc _ _ _ hmb])).look k Aai;clear hm hM;cases hno:nothing (G k)
 .rw [hno] at hrun;generalize G k=p at *;obtain⟨pk,pm,pf,ps⟩:=p;dsimp only at hGk;subst hGk;simp only[Bool.not_false,if_neg Bool.false_ne_true] at hrun;go_in
  go_wp2_with fail;exact bodyPost_ret (v:= .agg (iW pk pm pf ps)) (by simp[results,Tryz.results302,go_sem]) rfl ⟨rfl,((Below.refl _ _).alloc (Nat.le_refl _) _).alloc Aac _⟩
 .have hG0:G k=⟨k,0,0,0⟩:=by
   obtain⟨h1,h2,h3⟩:=(PV _).1 hno;generalize G k=p at *;obtain⟨pk,pm,pf,ps⟩:=p;dsimp only at hGk h1 h2 h3;rw [hGk,h1,h2,h3]
  rw [hno] at hrun;rw [hG0];clear hno hG0 hGk;simp only[Bool.not_true,if_pos] at hrun;go_in
  go_wp2_with fail;exact bodyPost_ret (v:= .agg (iW k 0 0 0)) (by simp[results,Tryz.results302,go_sem]) rfl ⟨rfl,((Below.refl _ _).alloc (Nat.le_refl _) _).alloc Aac _⟩
end Go.Proofs.YtohmklmkjmlpjaaGreatDoor
