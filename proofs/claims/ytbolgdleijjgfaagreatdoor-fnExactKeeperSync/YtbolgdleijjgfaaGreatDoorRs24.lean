/- Parts. -/
import Derived.Test.YtbolgdleijjgfaaGreatDoorRs22
import Derived.Test.YtbolgdleijjgfaaGreatDoorRs17
namespace Go.Proofs.YtbolgdleijjgfaaGreatDoor
open Go.Proofs.Tryz
set_option maxHeartbeats 8000000
set_option maxRecDepth 100000
open Go.RowKit
open Mth
structure An where
 o:gJ
 c:Int
abbrev gD (x:Mg):List Value:=[.int .i64 x.K,.int .i64 x.F,.int .i64 x.T,.int .i64 x.I,.int .i64 x.L,.string x.k,.int .i64 x.N]
theorem cZ (x:Mg):(gD x).length=7:=rfl
abbrev dQ (x:An):List Value:=[.int .i64 x.o.K,.int .i64 x.o.no,.string x.o.k,.int .i64 x.o.n,.int .i64 x.o.m.K,.int .i64 x.o.m.F,.int .i64 x.o.m.T,.int .i64 x.o.m.I,.int .i64 x.o.m.L,.string x.o.m.k,.int .i64 x.o.m.N,.int .i64 x.c]
theorem aQ (x:An):(dQ x).length=12:=rfl
abbrev anv (x:An):Value:= .agg #[.int .i64 x.o.K,.int .i64 x.o.no,.string x.o.k,.int .i64 x.o.n,.int .i64 x.o.m.K,.int .i64 x.o.m.F,.int .i64 x.o.m.T,.int .i64 x.o.m.I,.int .i64 x.o.m.L,.string x.o.m.k,.int .i64 x.o.m.N,.int .i64 x.c]
theorem KU {α:Type} (l:List α) (z:α) (k:Nat) (hk:k < l.length):(l.take k++List.replicate (l.length - k) z).set k l[k]=l.take (k+1)++List.replicate (l.length - (k+1)) z:=by
 exact abn
theorem GR.Blk.stepW {α:Type} {enc:α->List Value} {t:TypeId} {w w':World} {g:Nat} {l:List α} (h:GR.Blk enc t w g l) (hb:aH w w'):GR.Blk enc t w' g l:=by
 have hl:=GR.Blk.lt h;unfold GR.Blk at *;rw [hb.block g hl];exact h
theorem alr (m:Mg) (z:Int) (w:World) (h0:0<=z) (h1:z<=1048576) (h2:m.k.size<=maxLen):Calls prog 44 #[nZ m,.int .i64 z] w λe w'=>∃r:Int,e= .returned (.int .i64 r)/\(r= -1\/0<=r/\r<=z/\m.k.size<=1048576)/\aH w w':=by
 refine(adG m z w h0 h1 h2).mono ?_;rintro e w1 ⟨rfl,hb⟩;by_cases hc:z - m.k.size < 0
 .exact⟨-1,by rw [aE7 hc],.inl rfl,hb⟩
 .exact⟨z - m.k.size,by rw [aEX hc],.inr ⟨Aaa,Aaa,Aaa⟩,hb⟩
theorem abE (m:Mg) (w:World):Calls prog 32 #[nZ m,nZ m] w (dM w (.bool true)):=by
 obtain⟨mK,mF,mT,mI,mL,mk,mN⟩:=m;go_in
 exact aeU
abbrev opl (o:gJ):List Value:=[.int .i64 o.K,.int .i64 o.no,.string o.k,.int .i64 o.n,.int .i64 o.m.K,.int .i64 o.m.F,.int .i64 o.m.T,.int .i64 o.m.I,.int .i64 o.m.L,.string o.m.k,.int .i64 o.m.N]
abbrev adZ:List Value:=[.int .i64 0,.int .i64 0,.string ⟨#[]⟩,.int .i64 0,.int .i64 0,.int .i64 0,.int .i64 0,.int .i64 0,.int .i64 0,.string ⟨#[]⟩,.int .i64 0,.int .i64 0]
theorem adH (x:An) (w:World):Calls prog 57 #[anv x] w (dM w (anv x)):=by
 have HT:=Hq (λw1=>aDm x.o w1);obtain⟨Wv,hR0,hO0,hB0⟩:=O3 w (.cells (dQ x).toArray 90) (.cells adZ.toArray 75) (.cells adZ.toArray 75);go_in
 go_upto_region 2 with fail;refine wp_at (λW0 hW=>?_);have H7:Hid (TO 90 75 (dQ x) adZ w (λ_=>True) adZ W0):=by rw [hW];exact⟨Wv,hR0,hO0,hB0,λ_ _=>trivial⟩
 clear hW Wv hR0 hO0 hB0;open apc in exact aeJ
theorem ayb (o:gJ) (w:World):Calls prog 70 #[jP o,jP o] w (dM w (.bool true)):=by
 obtain⟨K,no,k,n,m⟩:=o;have HQ:=Hq (λw1=>abE m w1);obtain⟨mK,mF,mT,mI,mL,mk,mN⟩:=m;go_in
 go_wp2_with fail;refine(HQ _).mono ?_;rintro e w1 ⟨rfl,hb1⟩;have hB:=((au w _).trans ((au (w.alloc _) _).mono Aac)).trans (hb1.mono Aah);clear hb1;go_wp2_with fail;go_ret;exact⟨rfl,hB⟩
theorem Yf (x:An) (w:World):Calls prog 33 #[anv x,anv x] w (dM w (.bool true)):=by
 have HQ:=Hq (λw1=>ayb x.o w1);obtain⟨⟨oK,Qx,ok,on,⟨mK,mF,mT,mI,mL,mk,mN⟩⟩,ac⟩:=x;have hB0:=(au w (.cells #[.int .i64 oK,.int .i64 Qx,.string ok,.int .i64 on,.int .i64 mK,.int .i64 mF,.int .i64 mT,.int .i64 mI,.int .i64 mL,.string mk,.int .i64 mN,.int .i64 ac] 75)).trans ((au (w.alloc (.cells #[.int .i64 oK,.int .i64 Qx,.string ok,.int .i64 on,.int .i64 mK,.int .i64 mF,.int .i64 mT,.int .i64 mI,.int .i64 mL,.string mk,.int .i64 mN,.int .i64 ac] 75)) (.cells #[.int .i64 oK,.int .i64 Qx,.string ok,.int .i64 on,.int .i64 mK,.int .i64 mF,.int .i64 mT,.int .i64 mI,.int .i64 mL,.string mk,.int .i64 mN,.int .i64 ac] 75)).mono Aac);have HB0:=Hq hB0;have h1:=aj (aEK w (.cells #[.int .i64 oK,.int .i64 Qx,.string ok,.int .i64 on,.int .i64 mK,.int .i64 mF,.int .i64 mT,.int .i64 mI,.int .i64 mL,.string mk,.int .i64 mN,.int .i64 ac] 75)) (au (w.alloc (.cells #[.int .i64 oK,.int .i64 Qx,.string ok,.int .i64 on,.int .i64 mK,.int .i64 mF,.int .i64 mT,.int .i64 mI,.int .i64 mL,.string mk,.int .i64 mN,.int .i64 ac] 75)) (.cells #[.int .i64 oK,.int .i64 Qx,.string ok,.int .i64 on,.int .i64 mK,.int .i64 mF,.int .i64 mT,.int .i64 mI,.int .i64 mL,.string mk,.int .i64 mN,.int .i64 ac] 75));have h2:=aEK (w.alloc (.cells #[.int .i64 oK,.int .i64 Qx,.string ok,.int .i64 on,.int .i64 mK,.int .i64 mF,.int .i64 mT,.int .i64 mI,.int .i64 mL,.string mk,.int .i64 mN,.int .i64 ac] 75)) (.cells #[.int .i64 oK,.int .i64 Qx,.string ok,.int .i64 on,.int .i64 mK,.int .i64 mF,.int .i64 mT,.int .i64 mI,.int .i64 mL,.string mk,.int .i64 mN,.int .i64 ac] 75);have hS:(w.alloc (.cells #[.int .i64 oK,.int .i64 Qx,.string ok,.int .i64 on,.int .i64 mK,.int .i64 mF,.int .i64 mT,.int .i64 mI,.int .i64 mL,.string mk,.int .i64 mN,.int .i64 ac] 75)).heap.size=w.heap.size+1:=Aac
 rw [hS] at h2;have HA1:=Hq h1;have HA2:=Hq h2;clear hB0 h1 h2 hS;go_in
 go_wp2_with fail;refine(HQ _).mono ?_;rintro e w1 ⟨rfl,hb1⟩;have HB1:=Hq (HB0.trans (hb1.mono HB0.size));have c1:w1.cell? ⟨w.heap.size,11,none⟩=some (.int .i64 ac):=aEW _ _ 11 _ _ _ (aj HA1 hb1);have c2:w1.cell? ⟨w.heap.size+1,11,none⟩=some (.int .i64 ac):=aEW _ _ 11 _ _ _ (aj HA2 hb1);clear hb1 HA1 HA2;exact abl
theorem ZF (x:An) (z:Int) (w:World) (h0:0<=z) (h1:z<=1048576) (h2:x.o.k.size<=maxLen/\x.o.m.k.size<=maxLen):Calls prog 45 #[anv x,.int .i64 z] w λe w'=>∃r:Int,e= .returned (.int .i64 r)/\(r= -1\/0<=r/\r<=z/\(x.o.k.size<=1048576/\x.o.m.k.size<=1048576))/\aH w w':=by
 have HQ:=Hq (λw1=>aDl x.o z w1 h0 h1 h2.1 h2.2);obtain⟨⟨oK,Qx,ok,on,⟨mK,mF,mT,mI,mL,mk,mN⟩⟩,ac⟩:=x;dsimp only at HQ;clear h2;go_in
 go_wp2_with fail;refine(HQ _).mono ?_;rintro e w1 ⟨r,rfl,hcase,hb1⟩;have HB:=Hq ((au w _).trans (hb1.mono Aac));clear hb1 HQ;rcases hcase with rfl|⟨r0,r1,hq⟩
 .go_wp2_with fail;go_ret;exact⟨-1,rfl,.inl rfl,HB⟩
 .have hn:decide (r < 0)=false:=aEN Aaa;have HQQ:=Hq hq;clear hq;go_wp2_with fail;go_ret;exact⟨r,rfl,.inr ⟨r0,r1,HQQ⟩,HB⟩
theorem rF {w:World} {a:Option Addr} {l:List Mg} (h:GR.At gD 7 w a l) (i:Nat) (hi:i < l.length):∃g off,a=some ⟨g,off,none⟩/\g < w.heap.size/\w.cell? ⟨g,off+i*7,none⟩=some (.int .i64 l[i].K)/\w.cell? ⟨g,off+i*7+1,none⟩=some (.int .i64 l[i].F)/\w.cell? ⟨g,off+i*7+2,none⟩=some (.int .i64 l[i].T)/\w.cell? ⟨g,off+i*7+3,none⟩=some (.int .i64 l[i].I)/\w.cell? ⟨g,off+i*7+4,none⟩=some (.int .i64 l[i].L)/\w.cell? ⟨g,off+i*7+5,none⟩=some (.string l[i].k)/\w.cell? ⟨g,off+i*7+6,none⟩=some (.int .i64 l[i].N):=by
 obtain⟨g,off,e,hg,hc⟩:=h i hi;refine⟨g,off,e,hg,?_,?_,?_,?_,?_,?_,?_⟩
 .simpa using hc 0 Aaa
 .exact Wl
 .exact Wm
 .exact Wn
 .simpa [aFp] using hc 4 Aaa
 .simpa [aFp] using hc 5 Aaa
 .simpa [aFp] using hc 6 Aaa
theorem Lr {w:World} {g:Nat} {l:List Mg} (h:GR.Blk gD 70 w g l) (i:Nat) (hi:i < l.length):w.cell? ⟨g,i*7,none⟩=some (.int .i64 l[i].K)/\w.cell? ⟨g,i*7+1,none⟩=some (.int .i64 l[i].F)/\w.cell? ⟨g,i*7+2,none⟩=some (.int .i64 l[i].T)/\w.cell? ⟨g,i*7+3,none⟩=some (.int .i64 l[i].I)/\w.cell? ⟨g,i*7+4,none⟩=some (.int .i64 l[i].L)/\w.cell? ⟨g,i*7+5,none⟩=some (.string l[i].k)/\w.cell? ⟨g,i*7+6,none⟩=some (.int .i64 l[i].N):=
 ⟨by simpa using GR.Blk.cell h cZ i hi 0 Aaa,by simpa using GR.Blk.cell h cZ i hi 1 Aaa,by simpa using GR.Blk.cell h cZ i hi 2 Aaa,by simpa using GR.Blk.cell h cZ i hi 3 Aaa,by simpa using GR.Blk.cell h cZ i hi 4 Aaa,by simpa using GR.Blk.cell h cZ i hi 5 Aaa,by simpa using GR.Blk.cell h cZ i hi 6 Aaa⟩
theorem FM:(prog.info? 70).map (λi=>(i.zero,i.size,i.bytes))=some (some (.agg (bQ 0 0 0 0 0 ByteArray.empty 0)),7,64):=Aab
theorem acO (n:Nat) (hn:n<=2000000):∀W:World,(Instr.makeSlice 40 (.int .i64 (n:Int)) (.int .i64 (n:Int))).run prog W= .ok (.slice (some ⟨W.heap.size,0,none⟩) n n) (W.alloc (.cells (GR.flat gD (List.replicate n ⟨0,0,0,0,0,ByteArray.empty,0⟩)).toArray 70)):=by
 obtain⟨i0,hi,hz0,hz1,hz2⟩:=aFm FM;intro W;have h:=run_make (P:=prog) W 40 70 i0 (.agg (bQ 0 0 0 0 0 ByteArray.empty 0)) underlying40 hi hz0 .i64 .i64 (n:Int) (n:Int) Aaa Aaa Abd Aaa;rw [hz1] at h;have e:=GR.made_flat gD 7 cZ Aaa ⟨0,0,0,0,0,ByteArray.empty,0⟩ (Value.cells (.agg (bQ 0 0 0 0 0 ByteArray.empty 0))) rfl n;exact Tf
theorem aly (a:Option Addr) (cap:Nat) (l:List Mg) (w:World) (hl:l.length<=1048576) (ha:GR.At gD 7 w a l):
 Calls prog 26 #[.slice a l.length cap] w λe w'=>e= .returned (.slice (some ⟨w.heap.size,0,none⟩) l.length l.length)/\GR.Blk gD 70 w' w.heap.size l/\aH w w':=by
 have hmk:=acO l.length Aaa;have HA:=Hq ha;clear ha;go_in
 go_wp2_with fail;go_loopw [4] (λi wr=>∃k:Nat,k<=l.length/\i= .int .i64 k/\GR.Blk gD 70 wr w.heap.size (l.take k++List.replicate (l.length - k) ⟨0,0,0,0,0,ByteArray.empty,0⟩)/\aH w wr) (λi _=>l.length - (intOf i).toNat)
 case atStart=>exact ait
 case round=>
  open aqj in exact SN
theorem Ws (a b:Option Addr) (ca cb:Nat) (l:List Mg) (w:World) (hl:l.length<=1048600) (ha:GR.At gD 7 w a l) (hb:GR.At gD 7 w b l):
 Calls prog 10 #[.slice a l.length ca,.slice b l.length cb] w (dM w (.bool true)):=by
 have HA:=Hq ha;have HB:=Hq hb;clear ha hb;go_in
 go_wp2_with fail;go_loopw [5] (λi wr=>∃k:Nat,k<=l.length/\i= .int .i64 k/\aH w wr) (λi _=>l.length - (intOf i).toNat)
 case atStart=>exact BP
 case round=>
  obtain⟨k,hk,rfl,hbel⟩:=hrel;have aY:=Hq hbel;clear hbel;by_cases hlt:k < l.length
  .obtain⟨g1,o1,rfl,hg1,s0,s1,s2,s3,s4,s5,s6⟩:=rF (GR.At.below HA aY) k hlt;obtain⟨g2,o2,rfl,hg2,t0,t1,t2,t3,t4,t5,t6⟩:=rF (GR.At.below HB aY) k hlt;generalize l[k]=pu at *;have Sm:=Hq (λw1=>abE pu w1);obtain⟨mK,mF,mT,mI,mL,mk,mN⟩:=pu;dsimp only at s0 s1 s2 s3 s4 s5 s6 t0 t1 t2 t3 t4 t5 t6;go_wp2_with fail
   go_region_held (λw'=>(w'.cell? ⟨g1,o1+k*7,none⟩=some (.int .i64 mK)/\w'.cell? ⟨g1,o1+k*7+1,none⟩=some (.int .i64 mF)/\w'.cell? ⟨g1,o1+k*7+2,none⟩=some (.int .i64 mT)/\w'.cell? ⟨g1,o1+k*7+3,none⟩=some (.int .i64 mI)/\w'.cell? ⟨g1,o1+k*7+4,none⟩=some (.int .i64 mL)/\w'.cell? ⟨g1,o1+k*7+5,none⟩=some (.string mk)/\w'.cell? ⟨g1,o1+k*7+6,none⟩=some (.int .i64 mN))/\w'.cell? ⟨g2,o2+k*7,none⟩=some (.int .i64 mK)/\w'.cell? ⟨g2,o2+k*7+1,none⟩=some (.int .i64 mF)/\w'.cell? ⟨g2,o2+k*7+2,none⟩=some (.int .i64 mT)/\w'.cell? ⟨g2,o2+k*7+3,none⟩=some (.int .i64 mI)/\w'.cell? ⟨g2,o2+k*7+4,none⟩=some (.int .i64 mL)/\w'.cell? ⟨g2,o2+k*7+5,none⟩=some (.string mk)/\w'.cell? ⟨g2,o2+k*7+6,none⟩=some (.int .i64 mN)) (go_keep)
    (first
     |(go_at_call 32;refine(Sm _).mono ?_;rintro e w5 ⟨rfl,hb5⟩;have hb6:aH wr w5:=⟨hb5.os,hb5.tape,hb5.output,hb5.size,hb5.block⟩;clear hb5;have fI:=Hq (aY.trans (hb6.mono aY.size));have y0:=(hb6.cell (p:=⟨g1,o1+k*7,none⟩) hg1).trans s0;have y1:=(hb6.cell (p:=⟨g1,o1+k*7+1,none⟩) hg1).trans s1;have y2:=(hb6.cell (p:=⟨g1,o1+k*7+2,none⟩) hg1).trans s2;have y3:=(hb6.cell (p:=⟨g1,o1+k*7+3,none⟩) hg1).trans s3;have y4:=(hb6.cell (p:=⟨g1,o1+k*7+4,none⟩) hg1).trans s4;have y5:=(hb6.cell (p:=⟨g1,o1+k*7+5,none⟩) hg1).trans s5;have y6:=(hb6.cell (p:=⟨g1,o1+k*7+6,none⟩) hg1).trans s6;have z0:=(hb6.cell (p:=⟨g2,o2+k*7,none⟩) hg2).trans t0;have z1:=(hb6.cell (p:=⟨g2,o2+k*7+1,none⟩) hg2).trans t1;have z2:=(hb6.cell (p:=⟨g2,o2+k*7+2,none⟩) hg2).trans t2;have z3:=(hb6.cell (p:=⟨g2,o2+k*7+3,none⟩) hg2).trans t3;have z4:=(hb6.cell (p:=⟨g2,o2+k*7+4,none⟩) hg2).trans t4;have z5:=(hb6.cell (p:=⟨g2,o2+k*7+5,none⟩) hg2).trans t5;have z6:=(hb6.cell (p:=⟨g2,o2+k*7+6,none⟩) hg2).trans t6;clear hb6))
   all_goals
    go_wp2_with fail
    go_roundw
    case rel=>exact⟨k+1,Aaa,Aaf,fI⟩
    case measure=>simp[intOf];omega
  .exact SY
theorem afX (a:Option Addr) (ca:Nat) (l:List Mg) (z0:Int) (w:World) (h0:0<=z0) (h1:z0<=1048576) (hl:l.length<=maxLen) (hks:∀p∈l,p.k.size<=maxLen) (ha:GR.At gD 7 w a l):
 Calls prog 21 #[.slice a l.length ca,.int .i64 z0] w λe w'=>∃r:Int,e= .returned (.int .i64 r)/\(r= -1\/0<=r/\r<=z0/\l.length<=1048576/\∀p∈l,p.k.size<=1048576)/\aH w w':=by
 have HA:=Hq ha;clear ha;unfold maxLen at hl;by_cases hbig:(l.length:Int)<=z0
 .have hn:¬(z0 - (l.length:Int) < 0):=Aaa
  go_in
  go_wp2_with fail;go_loopw [1,5] (λlf i wr=>∃(k:Nat) (z:Int),k<=l.length/\i= .int .i64 k/\lf= .int .i64 z/\0<=z/\z<=z0/\(∀p∈l.take k,p.k.size<=1048576)/\aH w wr) (λ_ i _=>l.length - (intOf i).toNat)
  case atStart=>exact XU
  case round=>
   open arn in exact XP
 .have hn:z0 - (l.length:Int) < 0:=Aaa
  go_in
  go_wp2_with fail;go_ret;exact⟨-1,rfl,.inl rfl,aEY _ _⟩
theorem lV {w:World} {a:Option Addr} {l:List An} (h:GR.At dQ 12 w a l) (i:Nat) (hi:i < l.length):∃g off,a=some ⟨g,off,none⟩/\g < w.heap.size/\w.cell? ⟨g,off+i*12,none⟩=some (.int .i64 l[i].o.K)/\w.cell? ⟨g,off+i*12+1,none⟩=some (.int .i64 l[i].o.no)/\w.cell? ⟨g,off+i*12+2,none⟩=some (.string l[i].o.k)/\w.cell? ⟨g,off+i*12+3,none⟩=some (.int .i64 l[i].o.n)/\w.cell? ⟨g,off+i*12+4,none⟩=some (.int .i64 l[i].o.m.K)/\w.cell? ⟨g,off+i*12+5,none⟩=some (.int .i64 l[i].o.m.F)/\w.cell? ⟨g,off+i*12+6,none⟩=some (.int .i64 l[i].o.m.T)/\w.cell? ⟨g,off+i*12+7,none⟩=some (.int .i64 l[i].o.m.I)/\w.cell? ⟨g,off+i*12+8,none⟩=some (.int .i64 l[i].o.m.L)/\w.cell? ⟨g,off+i*12+9,none⟩=some (.string l[i].o.m.k)/\w.cell? ⟨g,off+i*12+10,none⟩=some (.int .i64 l[i].o.m.N)/\w.cell? ⟨g,off+i*12+11,none⟩=some (.int .i64 l[i].c):=by
 obtain⟨g,off,e,hg,hc⟩:=h i hi;refine⟨g,off,e,hg,?_,?_,?_,?_,?_,?_,?_,?_,?_,?_,?_,?_⟩
 .simpa using hc 0 Aaa
 .exact Wl
 .exact Wm
 .exact Wn
 .simpa [aFp] using hc 4 Aaa
 .simpa [aFp] using hc 5 Aaa
 .simpa [aFp] using hc 6 Aaa
 .simpa [aFp] using hc 7 Aaa
 .simpa [aFp] using hc 8 Aaa
 .simpa [aFp] using hc 9 Aaa
 .simpa [aFp] using hc 10 Aaa
 .simpa [aFp] using hc 11 Aaa
theorem Dy {w:World} {g:Nat} {l:List An} (h:GR.Blk dQ 75 w g l) (i:Nat) (hi:i < l.length):w.cell? ⟨g,i*12,none⟩=some (.int .i64 l[i].o.K)/\w.cell? ⟨g,i*12+1,none⟩=some (.int .i64 l[i].o.no)/\w.cell? ⟨g,i*12+2,none⟩=some (.string l[i].o.k)/\w.cell? ⟨g,i*12+3,none⟩=some (.int .i64 l[i].o.n)/\w.cell? ⟨g,i*12+4,none⟩=some (.int .i64 l[i].o.m.K)/\w.cell? ⟨g,i*12+5,none⟩=some (.int .i64 l[i].o.m.F)/\w.cell? ⟨g,i*12+6,none⟩=some (.int .i64 l[i].o.m.T)/\w.cell? ⟨g,i*12+7,none⟩=some (.int .i64 l[i].o.m.I)/\w.cell? ⟨g,i*12+8,none⟩=some (.int .i64 l[i].o.m.L)/\w.cell? ⟨g,i*12+9,none⟩=some (.string l[i].o.m.k)/\w.cell? ⟨g,i*12+10,none⟩=some (.int .i64 l[i].o.m.N)/\w.cell? ⟨g,i*12+11,none⟩=some (.int .i64 l[i].c):=
 ⟨by simpa using GR.Blk.cell h aQ i hi 0 Aaa,by simpa using GR.Blk.cell h aQ i hi 1 Aaa,by simpa using GR.Blk.cell h aQ i hi 2 Aaa,by simpa using GR.Blk.cell h aQ i hi 3 Aaa,by simpa using GR.Blk.cell h aQ i hi 4 Aaa,by simpa using GR.Blk.cell h aQ i hi 5 Aaa,by simpa using GR.Blk.cell h aQ i hi 6 Aaa,by simpa using GR.Blk.cell h aQ i hi 7 Aaa,by simpa using GR.Blk.cell h aQ i hi 8 Aaa,by simpa using GR.Blk.cell h aQ i hi 9 Aaa,by simpa using GR.Blk.cell h aQ i hi 10 Aaa,by simpa using GR.Blk.cell h aQ i hi 11 Aaa⟩
theorem wJ:(prog.info? 75).map (λi=>(i.zero,i.size,i.bytes))=some (some (.agg #[.int .i64 0,.int .i64 0,.string ByteArray.empty,.int .i64 0,.int .i64 0,.int .i64 0,.int .i64 0,.int .i64 0,.int .i64 0,.string ByteArray.empty,.int .i64 0,.int .i64 0]),12,112):=Aab
theorem Qq (n:Nat) (hn:n<=2000000):∀W:World,(Instr.makeSlice 41 (.int .i64 (n:Int)) (.int .i64 (n:Int))).run prog W= .ok (.slice (some ⟨W.heap.size,0,none⟩) n n) (W.alloc (.cells (GR.flat dQ (List.replicate n ⟨⟨0,0,ByteArray.empty,0,⟨0,0,0,0,0,ByteArray.empty,0⟩⟩,0⟩)).toArray 75)):=by
 obtain⟨i0,hi,hz0,hz1,hz2⟩:=aFm wJ;intro W;have h:=run_make (P:=prog) W 41 75 i0 (.agg #[.int .i64 0,.int .i64 0,.string ByteArray.empty,.int .i64 0,.int .i64 0,.int .i64 0,.int .i64 0,.int .i64 0,.int .i64 0,.string ByteArray.empty,.int .i64 0,.int .i64 0]) underlying41 hi hz0 .i64 .i64 (n:Int) (n:Int) Aaa Aaa Abd Aaa;rw [hz1] at h;have e:=GR.made_flat dQ 12 aQ Aaa ⟨⟨0,0,ByteArray.empty,0,⟨0,0,0,0,0,ByteArray.empty,0⟩⟩,0⟩ (Value.cells (.agg #[.int .i64 0,.int .i64 0,.string ByteArray.empty,.int .i64 0,.int .i64 0,.int .i64 0,.int .i64 0,.int .i64 0,.int .i64 0,.string ByteArray.empty,.int .i64 0,.int .i64 0])) rfl n;exact Tf
theorem ZJ (a:Option Addr) (cap:Nat) (l:List An) (w:World) (hl:l.length<=1048576) (ha:GR.At dQ 12 w a l):
 Calls prog 27 #[.slice a l.length cap] w λe w'=>e= .returned (.slice (some ⟨w.heap.size,0,none⟩) l.length l.length)/\GR.Blk dQ 75 w' w.heap.size l/\aH w w':=by
 have hmk:=Qq l.length Aaa;have HA:=Hq ha;clear ha;go_in
 go_wp2_with fail;go_loopw [4] (λi wr=>∃k:Nat,k<=l.length/\i= .int .i64 k/\GR.Blk dQ 75 wr w.heap.size (l.take k++List.replicate (l.length - k) ⟨⟨0,0,ByteArray.empty,0,⟨0,0,0,0,0,ByteArray.empty,0⟩⟩,0⟩)/\aH w wr) (λi _=>l.length - (intOf i).toNat)
 case atStart=>exact ait
 case round=>
  open aqi in exact SN
theorem Fg (a b:Option Addr) (ca cb:Nat) (l:List An) (w:World) (hl:l.length<=1048600) (ha:GR.At dQ 12 w a l) (hb:GR.At dQ 12 w b l):
 Calls prog 11 #[.slice a l.length ca,.slice b l.length cb] w (dM w (.bool true)):=by
 have HA:=Hq ha;have HB:=Hq hb;clear ha hb;go_in
 go_wp2_with fail;go_loopw [5] (λi wr=>∃k:Nat,k<=l.length/\i= .int .i64 k/\aH w wr) (λi _=>l.length - (intOf i).toNat)
 case atStart=>exact BP
 case round=>
  obtain⟨k,hk,rfl,hbel⟩:=hrel;have aY:=Hq hbel;clear hbel;by_cases hlt:k < l.length
  .obtain⟨g1,o1,rfl,hg1,s0,s1,s2,s3,s4,s5,s6,s7,s8,s9,s10,s11⟩:=lV (GR.At.below HA aY) k hlt;obtain⟨g2,o2,rfl,hg2,t0,t1,t2,t3,t4,t5,t6,t7,t8,t9,t10,t11⟩:=lV (GR.At.below HB aY) k hlt;generalize l[k]=pu at *;have Sm:=Hq (λw1=>Yf pu w1);obtain⟨⟨oK,Qx,ok,on,⟨mK,mF,mT,mI,mL,mk,mN⟩⟩,ac⟩:=pu;dsimp only at s0 s1 s2 s3 s4 s5 s6 s7 s8 s9 s10 s11 t0 t1 t2 t3 t4 t5 t6 t7 t8 t9 t10 t11;go_wp2_with fail
   go_region_held (λw'=>(w'.cell? ⟨g1,o1+k*12,none⟩=some (.int .i64 oK)/\w'.cell? ⟨g1,o1+k*12+1,none⟩=some (.int .i64 Qx)/\w'.cell? ⟨g1,o1+k*12+2,none⟩=some (.string ok)/\w'.cell? ⟨g1,o1+k*12+3,none⟩=some (.int .i64 on)/\w'.cell? ⟨g1,o1+k*12+4,none⟩=some (.int .i64 mK)/\w'.cell? ⟨g1,o1+k*12+5,none⟩=some (.int .i64 mF)/\w'.cell? ⟨g1,o1+k*12+6,none⟩=some (.int .i64 mT)/\w'.cell? ⟨g1,o1+k*12+7,none⟩=some (.int .i64 mI)/\w'.cell? ⟨g1,o1+k*12+8,none⟩=some (.int .i64 mL)/\w'.cell? ⟨g1,o1+k*12+9,none⟩=some (.string mk)/\w'.cell? ⟨g1,o1+k*12+10,none⟩=some (.int .i64 mN)/\w'.cell? ⟨g1,o1+k*12+11,none⟩=some (.int .i64 ac))/\w'.cell? ⟨g2,o2+k*12,none⟩=some (.int .i64 oK)/\w'.cell? ⟨g2,o2+k*12+1,none⟩=some (.int .i64 Qx)/\w'.cell? ⟨g2,o2+k*12+2,none⟩=some (.string ok)/\w'.cell? ⟨g2,o2+k*12+3,none⟩=some (.int .i64 on)/\w'.cell? ⟨g2,o2+k*12+4,none⟩=some (.int .i64 mK)/\w'.cell? ⟨g2,o2+k*12+5,none⟩=some (.int .i64 mF)/\w'.cell? ⟨g2,o2+k*12+6,none⟩=some (.int .i64 mT)/\w'.cell? ⟨g2,o2+k*12+7,none⟩=some (.int .i64 mI)/\w'.cell? ⟨g2,o2+k*12+8,none⟩=some (.int .i64 mL)/\w'.cell? ⟨g2,o2+k*12+9,none⟩=some (.string mk)/\w'.cell? ⟨g2,o2+k*12+10,none⟩=some (.int .i64 mN)/\w'.cell? ⟨g2,o2+k*12+11,none⟩=some (.int .i64 ac)) (go_keep)
    (first
     |(go_at_call 33;refine(Sm _).mono ?_;rintro e w5 ⟨rfl,hb5⟩;have hb6:aH wr w5:=⟨hb5.os,hb5.tape,hb5.output,hb5.size,hb5.block⟩;clear hb5;have fI:=Hq (aY.trans (hb6.mono aY.size));have y0:=(hb6.cell (p:=⟨g1,o1+k*12,none⟩) hg1).trans s0;have y1:=(hb6.cell (p:=⟨g1,o1+k*12+1,none⟩) hg1).trans s1;have y2:=(hb6.cell (p:=⟨g1,o1+k*12+2,none⟩) hg1).trans s2;have y3:=(hb6.cell (p:=⟨g1,o1+k*12+3,none⟩) hg1).trans s3;have y4:=(hb6.cell (p:=⟨g1,o1+k*12+4,none⟩) hg1).trans s4;have y5:=(hb6.cell (p:=⟨g1,o1+k*12+5,none⟩) hg1).trans s5;have y6:=(hb6.cell (p:=⟨g1,o1+k*12+6,none⟩) hg1).trans s6;have y7:=(hb6.cell (p:=⟨g1,o1+k*12+7,none⟩) hg1).trans s7;have y8:=(hb6.cell (p:=⟨g1,o1+k*12+8,none⟩) hg1).trans s8;have y9:=(hb6.cell (p:=⟨g1,o1+k*12+9,none⟩) hg1).trans s9;have y10:=(hb6.cell (p:=⟨g1,o1+k*12+10,none⟩) hg1).trans s10;have y11:=(hb6.cell (p:=⟨g1,o1+k*12+11,none⟩) hg1).trans s11;have z0:=(hb6.cell (p:=⟨g2,o2+k*12,none⟩) hg2).trans t0;have z1:=(hb6.cell (p:=⟨g2,o2+k*12+1,none⟩) hg2).trans t1;have z2:=(hb6.cell (p:=⟨g2,o2+k*12+2,none⟩) hg2).trans t2;have z3:=(hb6.cell (p:=⟨g2,o2+k*12+3,none⟩) hg2).trans t3;have z4:=(hb6.cell (p:=⟨g2,o2+k*12+4,none⟩) hg2).trans t4;have z5:=(hb6.cell (p:=⟨g2,o2+k*12+5,none⟩) hg2).trans t5;have z6:=(hb6.cell (p:=⟨g2,o2+k*12+6,none⟩) hg2).trans t6;have z7:=(hb6.cell (p:=⟨g2,o2+k*12+7,none⟩) hg2).trans t7;have z8:=(hb6.cell (p:=⟨g2,o2+k*12+8,none⟩) hg2).trans t8;have z9:=(hb6.cell (p:=⟨g2,o2+k*12+9,none⟩) hg2).trans t9;have z10:=(hb6.cell (p:=⟨g2,o2+k*12+10,none⟩) hg2).trans t10;have z11:=(hb6.cell (p:=⟨g2,o2+k*12+11,none⟩) hg2).trans t11;clear hb6))
   all_goals
    go_wp2_with fail
    go_roundw
    case rel=>exact⟨k+1,Aaa,Aaf,fI⟩
    case measure=>simp[intOf];omega
  .exact SY
theorem UW (a:Option Addr) (ca:Nat) (l:List An) (z0:Int) (w:World) (h0:0<=z0) (h1:z0<=1048576) (hl:l.length<=maxLen) (hks:∀p∈l,p.o.k.size<=maxLen/\p.o.m.k.size<=maxLen) (ha:GR.At dQ 12 w a l):
 Calls prog 22 #[.slice a l.length ca,.int .i64 z0] w λe w'=>∃r:Int,e= .returned (.int .i64 r)/\(r= -1\/0<=r/\r<=z0/\l.length<=1048576/\∀p∈l,p.o.k.size<=1048576/\p.o.m.k.size<=1048576)/\aH w w':=by
 have HA:=Hq ha;clear ha;unfold maxLen at hl;by_cases hbig:(l.length:Int)<=z0
 .have hn:¬(z0 - (l.length:Int) < 0):=Aaa
  go_in
  go_wp2_with fail;go_loopw [1,5] (λlf i wr=>∃(k:Nat) (z:Int),k<=l.length/\i= .int .i64 k/\lf= .int .i64 z/\0<=z/\z<=z0/\(∀p∈l.take k,p.o.k.size<=1048576/\p.o.m.k.size<=1048576)/\aH w wr) (λ_ i _=>l.length - (intOf i).toNat)
  case atStart=>exact XU
  case round=>
   open arl in exact XP
 .have hn:z0 - (l.length:Int) < 0:=Aaa
  go_in
  go_wp2_with fail;go_ret;exact⟨-1,rfl,.inl rfl,aEY _ _⟩
structure Kp where
 base:Nd
 node:Nd
 log:ByteArray
 safe:Int
 wait:List Mg
 asked:List An
structure KA where
 b:bq
 n:bq
 wa:Option Addr
 wc:Nat
 aa:Option Addr
 ac:Nat
abbrev AA (k:Kp) (A:KA):List Value:=[.int .i64 k.base.id,.int .i64 k.base.par,.slice A.b.k k.base.kids.length A.b.ck,.int .i64 k.base.next,.slice A.b.p k.base.pu.length A.b.cp,.slice A.b.o k.base.out.length A.b.co,.slice A.b.s k.base.seen.length A.b.cs,.int .i64 k.base.old,.slice A.b.r k.base.reqs.length A.b.cr,.int .i64 k.node.id,.int .i64 k.node.par,.slice A.n.k k.node.kids.length A.n.ck,.int .i64 k.node.next,.slice A.n.p k.node.pu.length A.n.cp,.slice A.n.o k.node.out.length A.n.co,.slice A.n.s k.node.seen.length A.n.cs,.int .i64 k.node.old,.slice A.n.r k.node.reqs.length A.n.cr,.string k.log,.int .i64 k.safe,.slice A.wa k.wait.length A.wc,.slice A.aa k.asked.length A.ac]
abbrev I8 (k:Kp) (A:KA):Value:= .agg #[.int .i64 k.base.id,.int .i64 k.base.par,.slice A.b.k k.base.kids.length A.b.ck,.int .i64 k.base.next,.slice A.b.p k.base.pu.length A.b.cp,.slice A.b.o k.base.out.length A.b.co,.slice A.b.s k.base.seen.length A.b.cs,.int .i64 k.base.old,.slice A.b.r k.base.reqs.length A.b.cr,.int .i64 k.node.id,.int .i64 k.node.par,.slice A.n.k k.node.kids.length A.n.ck,.int .i64 k.node.next,.slice A.n.p k.node.pu.length A.n.cp,.slice A.n.o k.node.out.length A.n.co,.slice A.n.s k.node.seen.length A.n.cs,.int .i64 k.node.old,.slice A.n.r k.node.reqs.length A.n.cr,.string k.log,.int .i64 k.safe,.slice A.wa k.wait.length A.wc,.slice A.aa k.asked.length A.ac]
structure jo (w:World) (A:KA) (k:Kp):Prop where
 kb:bY w A.b k.base
 kn:bY w A.n k.node
 kw:GR.At gD 7 w A.wa k.wait
 ka:GR.At dQ 12 w A.aa k.asked
theorem jo.below {w w':World} {A:KA} {k:Kp} (h:jo w A k) (hb:aH w w'):jo w' A k:=⟨h.kb.below hb,h.kn.below hb,GR.At.below h.kw hb,GR.At.below h.ka hb⟩
structure oI (k:Kp) (z:Nat):Prop where
 b:eF k.base z
 n:eF k.node z
 l:k.log.size<=z
 w:k.wait.length<=z
 a:k.asked.length<=z
 wk:∀p∈k.wait,p.k.size<=z
 ak:∀p∈k.asked,p.o.k.size<=z/\p.o.m.k.size<=z
theorem yL {w:World} {g:Nat} {v0 v1 v2 v3 v4 v5 v6 v7 v8 v9 v10 v11 v12 v13 v14 v15 v16 v17 v18 v19 v20 v21:Value} {t:TypeId} (h:w.heap[g]?=some (.cells #[v0,v1,v2,v3,v4,v5,v6,v7,v8,v9,v10,v11,v12,v13,v14,v15,v16,v17,v18,v19,v20,v21] t (0,0))):w.cell? ⟨g,0,none⟩=some v0/\w.cell? ⟨g,1,none⟩=some v1/\w.cell? ⟨g,2,none⟩=some v2/\w.cell? ⟨g,3,none⟩=some v3/\w.cell? ⟨g,4,none⟩=some v4/\w.cell? ⟨g,5,none⟩=some v5/\w.cell? ⟨g,6,none⟩=some v6/\w.cell? ⟨g,7,none⟩=some v7/\w.cell? ⟨g,8,none⟩=some v8/\w.cell? ⟨g,9,none⟩=some v9/\w.cell? ⟨g,10,none⟩=some v10/\w.cell? ⟨g,11,none⟩=some v11/\w.cell? ⟨g,12,none⟩=some v12/\w.cell? ⟨g,13,none⟩=some v13/\w.cell? ⟨g,14,none⟩=some v14/\w.cell? ⟨g,15,none⟩=some v15/\w.cell? ⟨g,16,none⟩=some v16/\w.cell? ⟨g,17,none⟩=some v17/\w.cell? ⟨g,18,none⟩=some v18/\w.cell? ⟨g,19,none⟩=some v19/\w.cell? ⟨g,20,none⟩=some v20/\w.cell? ⟨g,21,none⟩=some v21:=by
 have hc:∀i,w.cell? ⟨g,i,none⟩=#[v0,v1,v2,v3,v4,v5,v6,v7,v8,v9,v10,v11,v12,v13,v14,v15,v16,v17,v18,v19,v20,v21][i]?:=λi=>aEW w g i _ t (0,0) h
 exact⟨hc 0,hc 1,hc 2,hc 3,hc 4,hc 5,hc 6,hc 7,hc 8,hc 9,hc 10,hc 11,hc 12,hc 13,hc 14,hc 15,hc 16,hc 17,hc 18,hc 19,hc 20,hc 21⟩
theorem adF (k:Kp) (A:KA) (z:Int) (w:World) (g0:0<=z) (g1:z<=1048576) (hz:oI k maxLen) (ha:jo w A k):
 Calls prog 5 #[I8 k A,.int .i64 z] w λe w'=>∃r:Int,e= .returned (.int .i64 r)/\(r= -1\/0<=r/\r<=1048576/\oI k 1048576)/\aH w w':=by
 have H1:=Hq (λz w1 (hb:aH w w1) (h0:0<=z) (h1:z<=1048576)=>Xm k.base A.b z w1 h0 h1 hz.b (ha.below hb).kb);have H2:=Hq (λz w1 (hb:aH w w1) (h0:0<=z) (h1:z<=1048576)=>Xm k.node A.n z w1 h0 h1 hz.n (ha.below hb).kn);have H3:=Hq (λz w1 (hb:aH w w1) (h0:0<=z) (h1:z<=1048576)=>afX A.wa A.wc k.wait z w1 h0 h1 hz.w hz.wk (ha.below hb).kw);have H4:=Hq (λz w1 (hb:aH w w1) (h0:0<=z) (h1:z<=1048576)=>UW A.aa A.ac k.asked z w1 h0 h1 hz.a hz.ak (ha.below hb).ka);have HQ:Hid (eF k.base 1048576->eF k.node 1048576->k.log.size<=1048576->(k.wait.length<=1048576/\∀p∈k.wait,p.k.size<=1048576)->(k.asked.length<=1048576/\∀p∈k.asked,p.o.k.size<=1048576/\p.o.m.k.size<=1048576)->oI k 1048576):=λa b c d e=>⟨a,b,c,d.1,e.1,d.2,e.2⟩
 have HB0:=Hq (aEK w (.cells (AA k A).toArray 32));have pJ:=Hq (au w (.cells (AA k A).toArray 32));have hll:=hz.l;unfold maxLen at hll;clear ha hz;generalize oI k 1048576=KZ at *;generalize eF k.base 1048576=Z1 at *;generalize eF k.node 1048576=Z2 at *;obtain⟨B0,N0,lg,sf,wt,sk⟩:=k;obtain⟨AB,AN,wa,wc,aa,ac⟩:=A;dsimp only at H1 H2 H3 H4 HQ HB0 pJ hll ⊢;obtain⟨c0,c1,c2,c3,c4,c5,c6,c7,c8,c9,c10,c11,c12,c13,c14,c15,c16,c17,c18,c19,c20,c21⟩:=yL HB0;go_in
 go_wp2_with fail;refine(H1 _ _ pJ g0 g1).mono ?_;rintro e w1 ⟨z1,rfl,hb,hcase⟩;have HB1:=Hq (aj HB0 hb);have uq:=Hq (pJ.trans (hb.mono pJ.size));clear hb c0 c1 c2 c3 c4 c5 c6 c7 c8 c9 c10 c11 c12 c13 c14 c15 c16 c17 c18 c19 c20 c21 HB0 pJ;rcases hcase with rfl|⟨p0,p1,p2⟩
 case' inl=>
  go_wp2_with fail;go_ret;exact⟨-1,rfl,.inl rfl,uq⟩
 have K1:=Hq p2;have q1:decide (z1 < 0)=false:=aEN Aaa;clear p2;obtain⟨c0,c1,c2,c3,c4,c5,c6,c7,c8,c9,c10,c11,c12,c13,c14,c15,c16,c17,c18,c19,c20,c21⟩:=yL HB1;go_wp2_with fail;refine(H2 _ _ uq p0 p1).mono ?_;rintro e w2 ⟨z2,rfl,hb,hcase⟩;have HB2:=Hq (aj HB1 hb);have HL2:=Hq (uq.trans (hb.mono uq.size));clear hb c0 c1 c2 c3 c4 c5 c6 c7 c8 c9 c10 c11 c12 c13 c14 c15 c16 c17 c18 c19 c20 c21 HB1 uq;rcases hcase with rfl|⟨r0,r1,p2⟩
 case' inl=>
  go_wp2_with fail;go_ret;exact⟨-1,rfl,.inl rfl,HL2⟩
 have K2:=Hq p2;have q2:decide (z2 < 0)=false:=aEN Aaa;clear p2;obtain⟨c0,c1,c2,c3,c4,c5,c6,c7,c8,c9,c10,c11,c12,c13,c14,c15,c16,c17,c18,c19,c20,c21⟩:=yL HB2;by_cases hlg:(lg.size:Int)<=z2
 case' neg=>
  have q3:z2 - (lg.size:Int) < 0:=Aaa
  go_wp2_with fail;go_ret;exact⟨-1,rfl,.inl rfl,HL2⟩
 have q3:¬(z2 - (lg.size:Int) < 0):=Aaa
 go_wp2_with fail;refine(H3 _ _ HL2 Aaa Aaa).mono ?_;rintro e w3 ⟨z3,rfl,hcase,hb⟩;have HB3:=Hq (aj HB2 hb);have qX:=Hq (HL2.trans (hb.mono HL2.size));clear hb c0 c1 c2 c3 c4 c5 c6 c7 c8 c9 c10 c11 c12 c13 c14 c15 c16 c17 c18 c19 c20 c21 HB2 HL2;rcases hcase with rfl|⟨s0,s1,s2,s3⟩
 case' inl=>
  go_wp2_with fail;go_ret;exact⟨-1,rfl,.inl rfl,qX⟩
 have K3:=Hq (And.intro s2 s3);have q4:decide (z3 < 0)=false:=aEN Aaa;clear s2 s3;obtain⟨c0,c1,c2,c3,c4,c5,c6,c7,c8,c9,c10,c11,c12,c13,c14,c15,c16,c17,c18,c19,c20,c21⟩:=yL HB3;go_wp2_with fail;refine(H4 _ _ qX Aaa Aaa).mono ?_;rintro e w4 ⟨z4,rfl,hcase,hb⟩;have Ij:=Hq (qX.trans (hb.mono qX.size));clear hb c0 c1 c2 c3 c4 c5 c6 c7 c8 c9 c10 c11 c12 c13 c14 c15 c16 c17 c18 c19 c20 c21 HB3 qX;rcases hcase with rfl|⟨t0,t1,t2,t3⟩
 case' inl=>
  go_wp2_with fail;go_ret;exact⟨-1,rfl,.inl rfl,Ij⟩
 have K4:=Hq (And.intro t2 t3);have q5:decide (z4 < 0)=false:=aEN Aaa;clear t2 t3;go_wp2_with fail;go_ret;exact⟨z4,rfl,.inr ⟨t0,Aaa,HQ K1 K2 Aaa K3 K4⟩,Ij⟩
theorem Pn (k:Kp) (A B:KA) (w:World) (hz:oI k 1048576) (ha:jo w A k) (hb:jo w B k):
 Calls prog 9 #[I8 k A,I8 k B] w (dM w (.bool true)):=by
 have H1:=Hq (λw1 (h:aH w w1)=>abF k.base A.b B.b w1 (hz.b.mono Aaa) (ha.below h).kb (hb.below h).kb);have H2:=Hq (λw1 (h:aH w w1)=>abF k.node A.n B.n w1 (hz.n.mono Aaa) (ha.below h).kn (hb.below h).kn);have H3:=Hq (λw1 (h:aH w w1)=>Ws A.wa B.wa A.wc B.wc k.wait w1 (by have:=hz.w;omega) (ha.below h).kw (hb.below h).kw);have H4:=Hq (λw1 (h:aH w w1)=>Fg A.aa B.aa A.ac B.ac k.asked w1 (by have:=hz.a;omega) (ha.below h).ka (hb.below h).ka);have hS:(w.alloc (.cells (AA k A).toArray 43)).heap.size=w.heap.size+1:=Aac
 have hA0:=aj (aEK w (.cells (AA k A).toArray 43)) (au (w.alloc (.cells (AA k A).toArray 43)) (.cells (AA k B).toArray 43));have hB0:=aEK (w.alloc (.cells (AA k A).toArray 43)) (.cells (AA k B).toArray 43);rw [hS] at hB0;have HA0:=Hq hA0;have HB0:=Hq hB0;have pJ:=Hq ((au w (.cells (AA k A).toArray 43)).trans ((au (w.alloc (.cells (AA k A).toArray 43)) (.cells (AA k B).toArray 43)).mono Aaa));clear ha hb hz hS hA0 hB0;obtain⟨B0,N0,lg,sf,wt,sk⟩:=k;obtain⟨AB,AN,wa,wc,aa,ac⟩:=A;obtain⟨AB2,AN2,wa2,wc2,aa2,ac2⟩:=B;dsimp only at H1 H2 H3 H4 HA0 HB0 pJ ⊢;go_in
 obtain⟨c0,c1,c2,c3,c4,c5,c6,c7,c8,c9,c10,c11,c12,c13,c14,c15,c16,c17,c18,c19,c20,c21⟩:=yL HA0;obtain⟨d0,d1,d2,d3,d4,d5,d6,d7,d8,d9,d10,d11,d12,d13,d14,d15,d16,d17,d18,d19,d20,d21⟩:=yL HB0;go_wp2_with fail;refine(H1 _ pJ).mono ?_;rintro e w1 ⟨rfl,hb⟩;have HA1:=Hq (aj HA0 hb);have HB1:=Hq (aj HB0 hb);have uq:=Hq (pJ.trans (hb.mono pJ.size));clear hb c0 c1 c2 c3 c4 c5 c6 c7 c8 c9 c10 c11 c12 c13 c14 c15 c16 c17 c18 c19 c20 c21 d0 d1 d2 d3 d4 d5 d6 d7 d8 d9 d10 d11 d12 d13 d14 d15 d16 d17 d18 d19 d20 d21 HA0 HB0 pJ;obtain⟨c0,c1,c2,c3,c4,c5,c6,c7,c8,c9,c10,c11,c12,c13,c14,c15,c16,c17,c18,c19,c20,c21⟩:=yL HA1;obtain⟨d0,d1,d2,d3,d4,d5,d6,d7,d8,d9,d10,d11,d12,d13,d14,d15,d16,d17,d18,d19,d20,d21⟩:=yL HB1;go_wp2_with fail;refine(H2 _ uq).mono ?_;rintro e w2 ⟨rfl,hb⟩;have HA2:=Hq (aj HA1 hb);have HB2:=Hq (aj HB1 hb);have HL2:=Hq (uq.trans (hb.mono uq.size));clear hb c0 c1 c2 c3 c4 c5 c6 c7 c8 c9 c10 c11 c12 c13 c14 c15 c16 c17 c18 c19 c20 c21 d0 d1 d2 d3 d4 d5 d6 d7 d8 d9 d10 d11 d12 d13 d14 d15 d16 d17 d18 d19 d20 d21 HA1 HB1 uq;obtain⟨c0,c1,c2,c3,c4,c5,c6,c7,c8,c9,c10,c11,c12,c13,c14,c15,c16,c17,c18,c19,c20,c21⟩:=yL HA2;obtain⟨d0,d1,d2,d3,d4,d5,d6,d7,d8,d9,d10,d11,d12,d13,d14,d15,d16,d17,d18,d19,d20,d21⟩:=yL HB2;go_wp2_with fail;refine(H3 _ HL2).mono ?_;rintro e w3 ⟨rfl,hb⟩;have HA3:=Hq (aj HA2 hb);have HB3:=Hq (aj HB2 hb);have qX:=Hq (HL2.trans (hb.mono HL2.size));clear hb c0 c1 c2 c3 c4 c5 c6 c7 c8 c9 c10 c11 c12 c13 c14 c15 c16 c17 c18 c19 c20 c21 d0 d1 d2 d3 d4 d5 d6 d7 d8 d9 d10 d11 d12 d13 d14 d15 d16 d17 d18 d19 d20 d21 HA2 HB2 HL2;obtain⟨c0,c1,c2,c3,c4,c5,c6,c7,c8,c9,c10,c11,c12,c13,c14,c15,c16,c17,c18,c19,c20,c21⟩:=yL HA3;obtain⟨d0,d1,d2,d3,d4,d5,d6,d7,d8,d9,d10,d11,d12,d13,d14,d15,d16,d17,d18,d19,d20,d21⟩:=yL HB3;go_wp2_with fail;refine(H4 _ qX).mono ?_;rintro e w4 ⟨rfl,hb⟩;have HA4:=Hq (aj HA3 hb);have mQ:=Hq (aj HB3 hb);have Ij:=Hq (qX.trans (hb.mono qX.size));clear hb c0 c1 c2 c3 c4 c5 c6 c7 c8 c9 c10 c11 c12 c13 c14 c15 c16 c17 c18 c19 c20 c21 d0 d1 d2 d3 d4 d5 d6 d7 d8 d9 d10 d11 d12 d13 d14 d15 d16 d17 d18 d19 d20 d21 HA3 HB3 qX;go_wp2_with fail;go_ret;exact⟨rfl,Ij⟩
structure KR (W:World) (g:Nat) (V:List Value):Prop where
 r:W.rangeAt g 0 V
 l:g < W.heap.size
theorem KR.below {W W':World} {g:Nat} {V:List Value} (h:KR W g V) (hb:aH W W'):KR W' g V:=⟨yG h.r h.l hb,aEU h.l hb.size⟩
theorem KR.keeps {W W':World} {g:Nat} {V:List Value} {F:List Nat} (h:KR W g V) (hk:aA F W W') (hg:g∉F):KR W' g V:=
 ⟨λj v hj=>(aFq (w:=W) (hk.block g h.l hg)).trans (h.r j v hj),aEU h.l hk.size⟩
theorem KR.blk {W:World} {g:Nat} {V:List Value} {t:TypeId} (h:W.heap[g]?=some (.cells V.toArray t (0,0))):KR W g V:=
 ⟨λj v hv=>by
  rw [aFz,aEW W g j _ t (0,0) h]
  simpa using hv,ay h⟩
def BN (V:List Value) (k:Kp) (A:KA):Prop:=V=AA k A
theorem BN.len {V:List Value} {k:Kp} {A:KA} (h:BN V k A):V.length=22:=by unfold BN at h;rw [h];rfl
theorem BN.agg {V:List Value} {k:Kp} {A:KA} (h:BN V k A):I8 k A= .agg V.toArray:=by unfold BN at h;rw [h]
theorem BN.one {V:List Value} {k:Kp} {A:KA} (h:BN V k A):V.toArray.all (·.oneCell')=true:=by unfold BN at h;rw [h];kernel_rfl
section
variable {ops:Array Oper} {rest:List Oper} {op:Oper} {a:Act} {w:World} {Q:Exit->Act->World->Prop}
theorem nY (hw:Region.wanted op (yielded ops a.tmps)=true) (x:Operand) (ho:op.op= .load 43 x) (g:Nat) (hx:a.eval x= .pointer (some ⟨g,0,none⟩)) (V:List Value) (hl:V.length=22) (hc:KR w g V)
 (h:wpList prog ops Q rest (a.put op.dst (.agg V.toArray)) w):wpList prog ops Q (op::rest) a w:=
 aFx hw λ_ hK=>wp_load_mid 43 x ho g 0 hx V _ hc.r underlying43 rfl Aco (hK _ _ h)
theorem MH (hw:Region.wanted op (yielded ops a.tmps)=true) (x:Operand) (ho:op.op= .load 32 x) (g:Nat) (hx:a.eval x= .pointer (some ⟨g,0,none⟩)) (V:List Value) (hl:V.length=22) (hc:KR w g V)
 (h:wpList prog ops Q rest (a.put op.dst (.agg V.toArray)) w):wpList prog ops Q (op::rest) a w:=
 aFx hw λ_ hK=>wp_load_mid 32 x ho g 0 hx V _ hc.r underlying32 rfl Aco (hK _ _ h)
theorem uQ (hw:Region.wanted op (yielded ops a.tmps)=true) (x y:Operand) (ho:op.op= .store 43 x y) (g:Nat) (hx:a.eval x= .pointer (some ⟨g,0,none⟩)) (V:List Value) (hy:a.eval y= .agg V.toArray) (hl:V.length=22) (h1:V.toArray.all (·.oneCell')=true) {cs:Array Value} {t:TypeId} (hc:cs.size=22) (hb:w.heap[g]?=some (.cells cs t (0,0)))
 (h:∀W,W=w.setCells g 0 V->KR W g V->wpList prog ops Q rest (a.put op.dst undef) W):wpList prog ops Q (op::rest) a w:=by
 have ht:w.there g 0 22:=λj hj=>⟨by rw [aEW w g _ _ t (0,0) hb];simp;omega,aC hb _⟩
 refine aFx hw λ_ hK=>wp_store_mid 43 x y ho g 0 V.toArray hx hy (by simpa [hl] using ht) (by simp only[aFH,hl];kernel_rfl) h1 (hK _ _ ?_)
 exact h _ rfl ⟨World.rangeAt_setCells_same w g 0 V (by rw [hl];exact ht),aEU (ay hb) (eB g V w 0).size⟩
end
def iX (k:Nat):An:=⟨⟨(k:Int),(k:Int)+1,mark (k+2),(k:Int)+3,⟨(k:Int)+4,(k:Int)+5,(k:Int)+6,(k:Int)+7,(k:Int)+8,mark (k+9),(k:Int)+10⟩⟩,(k:Int)+11⟩
theorem GR.W.twelveA {w:World} {a:Option Addr} {g:Nat} {l:List An} (h:GR.W dQ 12 w a g l) (i:Nat) (hi:i < l.length):a=some ⟨g,0,none⟩/\g < w.heap.size/\(w.cell? ⟨g,i*12,none⟩=some (.int .i64 l[i].o.K)/\w.cell? ⟨g,i*12+1,none⟩=some (.int .i64 l[i].o.no)/\w.cell? ⟨g,i*12+2,none⟩=some (.string l[i].o.k)/\w.cell? ⟨g,i*12+3,none⟩=some (.int .i64 l[i].o.n)/\w.cell? ⟨g,i*12+4,none⟩=some (.int .i64 l[i].o.m.K)/\w.cell? ⟨g,i*12+5,none⟩=some (.int .i64 l[i].o.m.F)/\w.cell? ⟨g,i*12+6,none⟩=some (.int .i64 l[i].o.m.T)/\w.cell? ⟨g,i*12+7,none⟩=some (.int .i64 l[i].o.m.I)/\w.cell? ⟨g,i*12+8,none⟩=some (.int .i64 l[i].o.m.L)/\w.cell? ⟨g,i*12+9,none⟩=some (.string l[i].o.m.k)/\w.cell? ⟨g,i*12+10,none⟩=some (.int .i64 l[i].o.m.N)/\w.cell? ⟨g,i*12+11,none⟩=some (.int .i64 l[i].c))/\w.frozen? ⟨g,i*12,none⟩=false/\w.frozen? ⟨g,i*12+1,none⟩=false/\w.frozen? ⟨g,i*12+2,none⟩=false/\w.frozen? ⟨g,i*12+3,none⟩=false/\w.frozen? ⟨g,i*12+4,none⟩=false/\w.frozen? ⟨g,i*12+5,none⟩=false/\w.frozen? ⟨g,i*12+6,none⟩=false/\w.frozen? ⟨g,i*12+7,none⟩=false/\w.frozen? ⟨g,i*12+8,none⟩=false/\w.frozen? ⟨g,i*12+9,none⟩=false/\w.frozen? ⟨g,i*12+10,none⟩=false/\w.frozen? ⟨g,i*12+11,none⟩=false:=by
 obtain⟨e,hg,hc⟩:=h i hi;exact⟨e,hg,⟨by simpa using(hc 0 Aaa).1,by simpa using(hc 1 Aaa).1,by simpa using(hc 2 Aaa).1,by simpa using(hc 3 Aaa).1,by simpa using(hc 4 Aaa).1,by simpa using(hc 5 Aaa).1,by simpa using(hc 6 Aaa).1,by simpa using(hc 7 Aaa).1,by simpa using(hc 8 Aaa).1,by simpa using(hc 9 Aaa).1,by simpa using(hc 10 Aaa).1,by simpa using(hc 11 Aaa).1⟩,by simpa using(hc 0 Aaa).2,(hc 1 Aaa).2,(hc 2 Aaa).2,(hc 3 Aaa).2,(hc 4 Aaa).2,(hc 5 Aaa).2,(hc 6 Aaa).2,(hc 7 Aaa).2,(hc 8 Aaa).2,(hc 9 Aaa).2,(hc 10 Aaa).2,(hc 11 Aaa).2⟩
theorem WW (a:Option Addr) (g c s:Nat) (l:List An) (w:World) (hs0:0 < s) (hs1:s<=4000000000000000) (hl:l.length<=1048600) (ha:GR.W dQ 12 w a g l):
 Calls prog 14 #[.slice a l.length c,.int .i64 s] w λe w'=>e= .returned (.int .i64 (s+12*(l.length:Int)))/\GR.W dQ 12 w' a g (jH iX 12 s l l.length)/\aA (fp g l) w w':=by
 have HA:=Hq ha;clear ha;go_in
 go_wp2_with fail;go_loopw [1,5] (λkk i wr=>∃k m:Nat,k<=l.length/\i= .int .i64 k/\kk= .int .i64 m/\m=s+12*k/\GR.W dQ 12 wr a g (jH iX 12 s l k)/\aA (fp g l) w wr) (λ_ i _=>l.length - (intOf i).toNat)
 case atStart=>exact XW
 case round=>
  open apK in exact SL
theorem WB (a:Option Addr) (g c n s:Nat) (l:List An) (w:World) (hn:n=l.length) (hs0:0 < s) (hs1:s<=4000000000000000) (hl:l.length<=1048600) (ha:GR.W dQ 12 w a g (jH iX 12 s l l.length)):
 Calls prog 17 #[.slice a n c,.int .i64 s] w (dM w (.int .i64 (s+12*(l.length:Int)))):=by
 have HA:=Hq ha;clear ha;subst hn;go_in
 go_wp2_with fail;go_loopw [1,5] (λkk i wr=>∃k m:Nat,k<=l.length/\i= .int .i64 k/\kk= .int .i64 m/\m=s+12*k/\aH w wr) (λ_ i _=>l.length - (intOf i).toNat)
 case atStart=>exact Tg
 case round=>
  open arT in exact ER
end Go.Proofs.YtbolgdleijjgfaaGreatDoor
