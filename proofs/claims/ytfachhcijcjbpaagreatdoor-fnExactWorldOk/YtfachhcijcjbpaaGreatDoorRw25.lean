/- Parts. -/
import Derived.Test.YtfachhcijcjbpaaGreatDoorRw24
namespace Go.Proofs.YtfachhcijcjbpaaGreatDoor
open Go.Proofs.Tryz
set_option maxHeartbeats 4000000
set_option maxRecDepth 100000
open Go.RowKit
open Mth
variable (a:Option Addr) {w w':World} {g:Nat} {l:List Mg}
theorem qU {a:Option Addr} (h:GR.At iE 7 w a l) (i:Nat) (hi:i < l.length):∃g off,a=some ⟨g,off,none⟩/\g < w.heap.size/\w.cell? ⟨g,off+i*7,none⟩=some (.int .i64 l[i].K)/\w.cell? ⟨g,off+i*7+1,none⟩=some (.int .i64 l[i].F)/\w.cell? ⟨g,off+i*7+2,none⟩=some (.int .i64 l[i].T)/\w.cell? ⟨g,off+i*7+3,none⟩=some (.int .i64 l[i].I)/\w.cell? ⟨g,off+i*7+4,none⟩=some (.int .i64 l[i].L)/\w.cell? ⟨g,off+i*7+5,none⟩=some (.string l[i].k)/\w.cell? ⟨g,off+i*7+6,none⟩=some (.int .i64 l[i].N):=by
 obtain⟨g,off,e,hg,hc⟩:=h i hi;refine⟨g,off,e,hg,?_,?_,?_,?_,?_,?_,?_⟩
 .simpa using hc 0 Aaa
 .exact JZ
 .exact Pm
 .exact Pn
 .exact WI
 .exact WJ
 .exact WL
theorem LK (h:GR.Blk iE 104 w g l) (i:Nat) (hi:i < l.length):w.cell? ⟨g,i*7,none⟩=some (.int .i64 l[i].K)/\w.cell? ⟨g,i*7+1,none⟩=some (.int .i64 l[i].F)/\w.cell? ⟨g,i*7+2,none⟩=some (.int .i64 l[i].T)/\w.cell? ⟨g,i*7+3,none⟩=some (.int .i64 l[i].I)/\w.cell? ⟨g,i*7+4,none⟩=some (.int .i64 l[i].L)/\w.cell? ⟨g,i*7+5,none⟩=some (.string l[i].k)/\w.cell? ⟨g,i*7+6,none⟩=some (.int .i64 l[i].N):=
 ⟨by simpa using GR.Blk.cell h dM i hi 0 Aaa,by simpa using GR.Blk.cell h dM i hi 1 Aaa,by simpa using GR.Blk.cell h dM i hi 2 Aaa,by simpa using GR.Blk.cell h dM i hi 3 Aaa,by simpa using GR.Blk.cell h dM i hi 4 Aaa,by simpa using GR.Blk.cell h dM i hi 5 Aaa,by simpa using GR.Blk.cell h dM i hi 6 Aaa⟩
theorem Qr:(prog.info? 104).map (λi=>(i.zero,i.size,i.bytes))=some (some (.agg (bH 0 0 0 0 0 ByteArray.empty 0)),7,64):=Aab
theorem acR (n:Nat) (hn:n<=2000000):∀W:World,(Instr.makeSlice 54 (.int .i64 (n:Int)) (.int .i64 (n:Int))).run prog W= .ok (.slice (some ⟨W.heap.size,0,none⟩) n n) (W.alloc (.cells (GR.flat iE (List.replicate n ⟨0,0,0,0,0,ByteArray.empty,0⟩)).toArray 104)):=by
 obtain⟨i0,hi,hz0,hz1,hz2⟩:=aEY Qr;intro W;have h:=run_make (P:=prog) W 54 104 i0 (.agg (bH 0 0 0 0 0 ByteArray.empty 0)) underlying54 hi hz0 .i64 .i64 (n:Int) (n:Int) Aaa Aaa Aat Aaa;rw [hz1] at h;have e:=GR.made_flat iE 7 dM Aaa ⟨0,0,0,0,0,ByteArray.empty,0⟩ (Value.cells (.agg (bH 0 0 0 0 0 ByteArray.empty 0))) rfl n;exact ET
theorem alL (cap:Nat) (l:List Mg) (w:World) (hl:l.length<=1048576) (ha:GR.At iE 7 w a l):
 Calls prog 70 #[.slice a l.length cap] w λe w'=>e= .returned (.slice (some ⟨w.heap.size,0,none⟩) l.length l.length)/\GR.Blk iE 104 w' w.heap.size l/\aG w w':=by
 have hmk:=acR l.length Aaa;have HA:=Hq ha;clear ha;go_in
 go_wp2_with fail;go_loopw [4] (λi wr=>∃k:Nat,k<=l.length/\i= .int .i64 k/\GR.Blk iE 104 wr w.heap.size (l.take k++List.replicate (l.length - k) ⟨0,0,0,0,0,ByteArray.empty,0⟩)/\aG w wr) (λi _=>l.length - (intOf i).toNat)
 case atStart=>exact aeN
 case round=>
  open apa in exact IJ
theorem ae8 (a b:Option Addr) (ca cb:Nat) (l:List Mg) (w:World) (hl:l.length<=1048600) (ha:GR.At iE 7 w a l) (hb:GR.At iE 7 w b l):
 Calls prog 81 #[.slice a l.length ca,.slice b l.length cb] w (dK w (.bool true)):=by
 have HA:=Hq ha;have HB:=Hq hb;clear ha hb;go_in
 go_wp2_with fail;go_loopw [5] (λi wr=>∃k:Nat,k<=l.length/\i= .int .i64 k/\aG w wr) (λi _=>l.length - (intOf i).toNat)
 case atStart=>exact vQ
 case round=>
  obtain⟨k,hk,rfl,hbel⟩:=hrel;have aO:=Hq hbel;clear hbel;by_cases hlt:k < l.length
  .obtain⟨g1,o1,rfl,hg1,s0,s1,s2,s3,s4,s5,s6⟩:=qU (GR.At.below HA aO) k hlt;obtain⟨g2,o2,rfl,hg2,t0,t1,t2,t3,t4,t5,t6⟩:=qU (GR.At.below HB aO) k hlt;generalize l[k]=pu at *;have xS:=Hq (λw1=>abG pu w1);obtain⟨mK,mF,mT,mI,mL,mk,mN⟩:=pu;dsimp only at s0 s1 s2 s3 s4 s5 s6 t0 t1 t2 t3 t4 t5 t6;go_wp2_with fail
   go_region_held (λw'=>(w'.cell? ⟨g1,o1+k*7,none⟩=some (.int .i64 mK)/\w'.cell? ⟨g1,o1+k*7+1,none⟩=some (.int .i64 mF)/\w'.cell? ⟨g1,o1+k*7+2,none⟩=some (.int .i64 mT)/\w'.cell? ⟨g1,o1+k*7+3,none⟩=some (.int .i64 mI)/\w'.cell? ⟨g1,o1+k*7+4,none⟩=some (.int .i64 mL)/\w'.cell? ⟨g1,o1+k*7+5,none⟩=some (.string mk)/\w'.cell? ⟨g1,o1+k*7+6,none⟩=some (.int .i64 mN))/\w'.cell? ⟨g2,o2+k*7,none⟩=some (.int .i64 mK)/\w'.cell? ⟨g2,o2+k*7+1,none⟩=some (.int .i64 mF)/\w'.cell? ⟨g2,o2+k*7+2,none⟩=some (.int .i64 mT)/\w'.cell? ⟨g2,o2+k*7+3,none⟩=some (.int .i64 mI)/\w'.cell? ⟨g2,o2+k*7+4,none⟩=some (.int .i64 mL)/\w'.cell? ⟨g2,o2+k*7+5,none⟩=some (.string mk)/\w'.cell? ⟨g2,o2+k*7+6,none⟩=some (.int .i64 mN)) (go_keep)
    (first
     |(go_at_call 125;refine(xS _).mono ?_;rintro e w5 ⟨rfl,hb5⟩;have hb6:aG wr w5:=⟨hb5.os,hb5.tape,hb5.output,hb5.size,hb5.block⟩;clear hb5;have eO:=Hq (aO.trans (hb6.mono aO.size));have y0:=(hb6.cell (p:=⟨g1,o1+k*7,none⟩) hg1).trans s0;have y1:=(hb6.cell (p:=⟨g1,o1+k*7+1,none⟩) hg1).trans s1;have y2:=(hb6.cell (p:=⟨g1,o1+k*7+2,none⟩) hg1).trans s2;have y3:=(hb6.cell (p:=⟨g1,o1+k*7+3,none⟩) hg1).trans s3;have y4:=(hb6.cell (p:=⟨g1,o1+k*7+4,none⟩) hg1).trans s4;have y5:=(hb6.cell (p:=⟨g1,o1+k*7+5,none⟩) hg1).trans s5;have y6:=(hb6.cell (p:=⟨g1,o1+k*7+6,none⟩) hg1).trans s6;have z0:=(hb6.cell (p:=⟨g2,o2+k*7,none⟩) hg2).trans t0;have z1:=(hb6.cell (p:=⟨g2,o2+k*7+1,none⟩) hg2).trans t1;have z2:=(hb6.cell (p:=⟨g2,o2+k*7+2,none⟩) hg2).trans t2;have z3:=(hb6.cell (p:=⟨g2,o2+k*7+3,none⟩) hg2).trans t3;have z4:=(hb6.cell (p:=⟨g2,o2+k*7+4,none⟩) hg2).trans t4;have z5:=(hb6.cell (p:=⟨g2,o2+k*7+5,none⟩) hg2).trans t5;have z6:=(hb6.cell (p:=⟨g2,o2+k*7+6,none⟩) hg2).trans t6;clear hb6))
   all_goals
    go_wp2_with fail
    go_roundw
    case rel=>exact⟨k+1,Aaa,Aaf,eO⟩
    case measure=>simp[intOf];omega
  .exact ES
theorem afX (ca:Nat) (l:List Mg) (z0:Int) (w:World) (h0:0<=z0) (h1:z0<=1048576) (hl:l.length<=maxLen) (hks:∀p∈l,p.k.size<=maxLen) (ha:GR.At iE 7 w a l):
 Calls prog 53 #[.slice a l.length ca,.int .i64 z0] w λe w'=>∃r:Int,e= .returned (.int .i64 r)/\(r= -1\/0<=r/\r<=z0/\l.length<=1048576/\∀p∈l,p.k.size<=1048576)/\aG w w':=by
 have HA:=Hq ha;clear ha;unfold maxLen at hl;by_cases hbig:(l.length:Int)<=z0
 .have hn:¬(z0 - (l.length:Int) < 0):=Aaa
  go_in
  go_wp2_with fail;go_loopw [1,5] (λlf i wr=>∃(k:Nat) (z:Int),k<=l.length/\i= .int .i64 k/\lf= .int .i64 z/\0<=z/\z<=z0/\(∀p∈l.take k,p.k.size<=1048576)/\aG w wr) (λ_ i _=>l.length - (intOf i).toNat)
  case atStart=>exact LV
  case round=>
   open an9 in exact LQ
 .have hn:z0 - (l.length:Int) < 0:=Aaa
  go_in
  exact Pe
theorem lM {a:Option Addr} {l:List An} (h:GR.At gM 12 w a l) (i:Nat) (hi:i < l.length):∃g off,a=some ⟨g,off,none⟩/\g < w.heap.size/\w.cell? ⟨g,off+i*12,none⟩=some (.int .i64 l[i].o.K)/\w.cell? ⟨g,off+i*12+1,none⟩=some (.int .i64 l[i].o.no)/\w.cell? ⟨g,off+i*12+2,none⟩=some (.string l[i].o.k)/\w.cell? ⟨g,off+i*12+3,none⟩=some (.int .i64 l[i].o.n)/\w.cell? ⟨g,off+i*12+4,none⟩=some (.int .i64 l[i].o.m.K)/\w.cell? ⟨g,off+i*12+5,none⟩=some (.int .i64 l[i].o.m.F)/\w.cell? ⟨g,off+i*12+6,none⟩=some (.int .i64 l[i].o.m.T)/\w.cell? ⟨g,off+i*12+7,none⟩=some (.int .i64 l[i].o.m.I)/\w.cell? ⟨g,off+i*12+8,none⟩=some (.int .i64 l[i].o.m.L)/\w.cell? ⟨g,off+i*12+9,none⟩=some (.string l[i].o.m.k)/\w.cell? ⟨g,off+i*12+10,none⟩=some (.int .i64 l[i].o.m.N)/\w.cell? ⟨g,off+i*12+11,none⟩=some (.int .i64 l[i].c):=by
 obtain⟨g,off,e,hg,hc⟩:=h i hi;refine⟨g,off,e,hg,?_,?_,?_,?_,?_,?_,?_,?_,?_,?_,?_,?_⟩
 .simpa using hc 0 Aaa
 .exact JZ
 .exact Pm
 .exact Pn
 .exact WI
 .exact WJ
 .exact WL
 .simpa [aE5] using hc 7 Aaa
 .simpa [aE5] using hc 8 Aaa
 .simpa [aE5] using hc 9 Aaa
 .exact abn
 .simpa [aE5] using hc 11 Aaa
theorem Dr {l:List An} (h:GR.Blk gM 108 w g l) (i:Nat) (hi:i < l.length):w.cell? ⟨g,i*12,none⟩=some (.int .i64 l[i].o.K)/\w.cell? ⟨g,i*12+1,none⟩=some (.int .i64 l[i].o.no)/\w.cell? ⟨g,i*12+2,none⟩=some (.string l[i].o.k)/\w.cell? ⟨g,i*12+3,none⟩=some (.int .i64 l[i].o.n)/\w.cell? ⟨g,i*12+4,none⟩=some (.int .i64 l[i].o.m.K)/\w.cell? ⟨g,i*12+5,none⟩=some (.int .i64 l[i].o.m.F)/\w.cell? ⟨g,i*12+6,none⟩=some (.int .i64 l[i].o.m.T)/\w.cell? ⟨g,i*12+7,none⟩=some (.int .i64 l[i].o.m.I)/\w.cell? ⟨g,i*12+8,none⟩=some (.int .i64 l[i].o.m.L)/\w.cell? ⟨g,i*12+9,none⟩=some (.string l[i].o.m.k)/\w.cell? ⟨g,i*12+10,none⟩=some (.int .i64 l[i].o.m.N)/\w.cell? ⟨g,i*12+11,none⟩=some (.int .i64 l[i].c):=
 ⟨by simpa using GR.Blk.cell h bY i hi 0 Aaa,by simpa using GR.Blk.cell h bY i hi 1 Aaa,by simpa using GR.Blk.cell h bY i hi 2 Aaa,by simpa using GR.Blk.cell h bY i hi 3 Aaa,by simpa using GR.Blk.cell h bY i hi 4 Aaa,by simpa using GR.Blk.cell h bY i hi 5 Aaa,by simpa using GR.Blk.cell h bY i hi 6 Aaa,by simpa using GR.Blk.cell h bY i hi 7 Aaa,by simpa using GR.Blk.cell h bY i hi 8 Aaa,by simpa using GR.Blk.cell h bY i hi 9 Aaa,by simpa using GR.Blk.cell h bY i hi 10 Aaa,by simpa using GR.Blk.cell h bY i hi 11 Aaa⟩
theorem CZ:(prog.info? 108).map (λi=>(i.zero,i.size,i.bytes))=some (some (.agg #[.int .i64 0,.int .i64 0,.string ByteArray.empty,.int .i64 0,.int .i64 0,.int .i64 0,.int .i64 0,.int .i64 0,.int .i64 0,.string ByteArray.empty,.int .i64 0,.int .i64 0]),12,112):=Aab
theorem QF (n:Nat) (hn:n<=2000000):∀W:World,(Instr.makeSlice 55 (.int .i64 (n:Int)) (.int .i64 (n:Int))).run prog W= .ok (.slice (some ⟨W.heap.size,0,none⟩) n n) (W.alloc (.cells (GR.flat gM (List.replicate n ⟨⟨0,0,ByteArray.empty,0,⟨0,0,0,0,0,ByteArray.empty,0⟩⟩,0⟩)).toArray 108)):=by
 obtain⟨i0,hi,hz0,hz1,hz2⟩:=aEY CZ;intro W;have h:=run_make (P:=prog) W 55 108 i0 (.agg #[.int .i64 0,.int .i64 0,.string ByteArray.empty,.int .i64 0,.int .i64 0,.int .i64 0,.int .i64 0,.int .i64 0,.int .i64 0,.string ByteArray.empty,.int .i64 0,.int .i64 0]) underlying55 hi hz0 .i64 .i64 (n:Int) (n:Int) Aaa Aaa Aat Aaa;rw [hz1] at h;have e:=GR.made_flat gM 12 bY Aaa ⟨⟨0,0,ByteArray.empty,0,⟨0,0,0,0,0,ByteArray.empty,0⟩⟩,0⟩ (Value.cells (.agg #[.int .i64 0,.int .i64 0,.string ByteArray.empty,.int .i64 0,.int .i64 0,.int .i64 0,.int .i64 0,.int .i64 0,.int .i64 0,.string ByteArray.empty,.int .i64 0,.int .i64 0])) rfl n;exact ET
theorem ZL (cap:Nat) (l:List An) (w:World) (hl:l.length<=1048576) (ha:GR.At gM 12 w a l):
 Calls prog 71 #[.slice a l.length cap] w λe w'=>e= .returned (.slice (some ⟨w.heap.size,0,none⟩) l.length l.length)/\GR.Blk gM 108 w' w.heap.size l/\aG w w':=by
 have hmk:=QF l.length Aaa;have HA:=Hq ha;clear ha;go_in
 go_wp2_with fail;go_loopw [4] (λi wr=>∃k:Nat,k<=l.length/\i= .int .i64 k/\GR.Blk gM 108 wr w.heap.size (l.take k++List.replicate (l.length - k) ⟨⟨0,0,ByteArray.empty,0,⟨0,0,0,0,0,ByteArray.empty,0⟩⟩,0⟩)/\aG w wr) (λi _=>l.length - (intOf i).toNat)
 case atStart=>exact aeN
 case round=>
  open ao9 in exact IJ
theorem Ug (a b:Option Addr) (ca cb:Nat) (l:List An) (w:World) (hl:l.length<=1048600) (ha:GR.At gM 12 w a l) (hb:GR.At gM 12 w b l):
 Calls prog 82 #[.slice a l.length ca,.slice b l.length cb] w (dK w (.bool true)):=by
 have HA:=Hq ha;have HB:=Hq hb;clear ha hb;go_in
 go_wp2_with fail;go_loopw [5] (λi wr=>∃k:Nat,k<=l.length/\i= .int .i64 k/\aG w wr) (λi _=>l.length - (intOf i).toNat)
 case atStart=>exact vQ
 case round=>
  obtain⟨k,hk,rfl,hbel⟩:=hrel;have aO:=Hq hbel;clear hbel;by_cases hlt:k < l.length
  .obtain⟨g1,o1,rfl,hg1,s0,s1,s2,s3,s4,s5,s6,s7,s8,s9,s10,s11⟩:=lM (GR.At.below HA aO) k hlt;obtain⟨g2,o2,rfl,hg2,t0,t1,t2,t3,t4,t5,t6,t7,t8,t9,t10,t11⟩:=lM (GR.At.below HB aO) k hlt;generalize l[k]=pu at *;have xS:=Hq (λw1=>J7 pu w1);obtain⟨⟨oK,oZ,ok,on,⟨mK,mF,mT,mI,mL,mk,mN⟩⟩,ac⟩:=pu;dsimp only at s0 s1 s2 s3 s4 s5 s6 s7 s8 s9 s10 s11 t0 t1 t2 t3 t4 t5 t6 t7 t8 t9 t10 t11;go_wp2_with fail
   go_region_held (λw'=>(w'.cell? ⟨g1,o1+k*12,none⟩=some (.int .i64 oK)/\w'.cell? ⟨g1,o1+k*12+1,none⟩=some (.int .i64 oZ)/\w'.cell? ⟨g1,o1+k*12+2,none⟩=some (.string ok)/\w'.cell? ⟨g1,o1+k*12+3,none⟩=some (.int .i64 on)/\w'.cell? ⟨g1,o1+k*12+4,none⟩=some (.int .i64 mK)/\w'.cell? ⟨g1,o1+k*12+5,none⟩=some (.int .i64 mF)/\w'.cell? ⟨g1,o1+k*12+6,none⟩=some (.int .i64 mT)/\w'.cell? ⟨g1,o1+k*12+7,none⟩=some (.int .i64 mI)/\w'.cell? ⟨g1,o1+k*12+8,none⟩=some (.int .i64 mL)/\w'.cell? ⟨g1,o1+k*12+9,none⟩=some (.string mk)/\w'.cell? ⟨g1,o1+k*12+10,none⟩=some (.int .i64 mN)/\w'.cell? ⟨g1,o1+k*12+11,none⟩=some (.int .i64 ac))/\w'.cell? ⟨g2,o2+k*12,none⟩=some (.int .i64 oK)/\w'.cell? ⟨g2,o2+k*12+1,none⟩=some (.int .i64 oZ)/\w'.cell? ⟨g2,o2+k*12+2,none⟩=some (.string ok)/\w'.cell? ⟨g2,o2+k*12+3,none⟩=some (.int .i64 on)/\w'.cell? ⟨g2,o2+k*12+4,none⟩=some (.int .i64 mK)/\w'.cell? ⟨g2,o2+k*12+5,none⟩=some (.int .i64 mF)/\w'.cell? ⟨g2,o2+k*12+6,none⟩=some (.int .i64 mT)/\w'.cell? ⟨g2,o2+k*12+7,none⟩=some (.int .i64 mI)/\w'.cell? ⟨g2,o2+k*12+8,none⟩=some (.int .i64 mL)/\w'.cell? ⟨g2,o2+k*12+9,none⟩=some (.string mk)/\w'.cell? ⟨g2,o2+k*12+10,none⟩=some (.int .i64 mN)/\w'.cell? ⟨g2,o2+k*12+11,none⟩=some (.int .i64 ac)) (go_keep)
    (first
     |(go_at_call 83;refine(xS _).mono ?_;rintro e w5 ⟨rfl,hb5⟩;have hb6:aG wr w5:=⟨hb5.os,hb5.tape,hb5.output,hb5.size,hb5.block⟩;clear hb5;have eO:=Hq (aO.trans (hb6.mono aO.size));have y0:=(hb6.cell (p:=⟨g1,o1+k*12,none⟩) hg1).trans s0;have y1:=(hb6.cell (p:=⟨g1,o1+k*12+1,none⟩) hg1).trans s1;have y2:=(hb6.cell (p:=⟨g1,o1+k*12+2,none⟩) hg1).trans s2;have y3:=(hb6.cell (p:=⟨g1,o1+k*12+3,none⟩) hg1).trans s3;have y4:=(hb6.cell (p:=⟨g1,o1+k*12+4,none⟩) hg1).trans s4;have y5:=(hb6.cell (p:=⟨g1,o1+k*12+5,none⟩) hg1).trans s5;have y6:=(hb6.cell (p:=⟨g1,o1+k*12+6,none⟩) hg1).trans s6;have y7:=(hb6.cell (p:=⟨g1,o1+k*12+7,none⟩) hg1).trans s7;have y8:=(hb6.cell (p:=⟨g1,o1+k*12+8,none⟩) hg1).trans s8;have y9:=(hb6.cell (p:=⟨g1,o1+k*12+9,none⟩) hg1).trans s9;have y10:=(hb6.cell (p:=⟨g1,o1+k*12+10,none⟩) hg1).trans s10;have y11:=(hb6.cell (p:=⟨g1,o1+k*12+11,none⟩) hg1).trans s11;have z0:=(hb6.cell (p:=⟨g2,o2+k*12,none⟩) hg2).trans t0;have z1:=(hb6.cell (p:=⟨g2,o2+k*12+1,none⟩) hg2).trans t1;have z2:=(hb6.cell (p:=⟨g2,o2+k*12+2,none⟩) hg2).trans t2;have z3:=(hb6.cell (p:=⟨g2,o2+k*12+3,none⟩) hg2).trans t3;have z4:=(hb6.cell (p:=⟨g2,o2+k*12+4,none⟩) hg2).trans t4;have z5:=(hb6.cell (p:=⟨g2,o2+k*12+5,none⟩) hg2).trans t5;have z6:=(hb6.cell (p:=⟨g2,o2+k*12+6,none⟩) hg2).trans t6;have z7:=(hb6.cell (p:=⟨g2,o2+k*12+7,none⟩) hg2).trans t7;have z8:=(hb6.cell (p:=⟨g2,o2+k*12+8,none⟩) hg2).trans t8;have z9:=(hb6.cell (p:=⟨g2,o2+k*12+9,none⟩) hg2).trans t9;have z10:=(hb6.cell (p:=⟨g2,o2+k*12+10,none⟩) hg2).trans t10;have z11:=(hb6.cell (p:=⟨g2,o2+k*12+11,none⟩) hg2).trans t11;clear hb6))
   all_goals
    go_wp2_with fail
    go_roundw
    case rel=>exact⟨k+1,Aaa,Aaf,eO⟩
    case measure=>simp[intOf];omega
  .exact ES
theorem Vp (ca:Nat) (l:List An) (z0:Int) (w:World) (h0:0<=z0) (h1:z0<=1048576) (hl:l.length<=maxLen) (hks:∀p∈l,p.o.k.size<=maxLen/\p.o.m.k.size<=maxLen) (ha:GR.At gM 12 w a l):
 Calls prog 54 #[.slice a l.length ca,.int .i64 z0] w λe w'=>∃r:Int,e= .returned (.int .i64 r)/\(r= -1\/0<=r/\r<=z0/\l.length<=1048576/\∀p∈l,p.o.k.size<=1048576/\p.o.m.k.size<=1048576)/\aG w w':=by
 have HA:=Hq ha;clear ha;unfold maxLen at hl;by_cases hbig:(l.length:Int)<=z0
 .have hn:¬(z0 - (l.length:Int) < 0):=Aaa
  go_in
  go_wp2_with fail;go_loopw [1,5] (λlf i wr=>∃(k:Nat) (z:Int),k<=l.length/\i= .int .i64 k/\lf= .int .i64 z/\0<=z/\z<=z0/\(∀p∈l.take k,p.o.k.size<=1048576/\p.o.m.k.size<=1048576)/\aG w wr) (λ_ i _=>l.length - (intOf i).toNat)
  case atStart=>exact LV
  case round=>
   open an8 in exact LQ
 .have hn:z0 - (l.length:Int) < 0:=Aaa
  go_in
  exact Pe
theorem oN {a:Option Addr} {l:List Td} (h:GR.At nR 13 w a l) (i:Nat) (hi:i < l.length):∃g off,a=some ⟨g,off,none⟩/\g < w.heap.size/\w.cell? ⟨g,off+i*13,none⟩=some (.int .i64 l[i].a)/\w.cell? ⟨g,off+i*13+1,none⟩=some (.int .i64 l[i].n.o.K)/\w.cell? ⟨g,off+i*13+2,none⟩=some (.int .i64 l[i].n.o.no)/\w.cell? ⟨g,off+i*13+3,none⟩=some (.string l[i].n.o.k)/\w.cell? ⟨g,off+i*13+4,none⟩=some (.int .i64 l[i].n.o.n)/\w.cell? ⟨g,off+i*13+5,none⟩=some (.int .i64 l[i].n.o.m.K)/\w.cell? ⟨g,off+i*13+6,none⟩=some (.int .i64 l[i].n.o.m.F)/\w.cell? ⟨g,off+i*13+7,none⟩=some (.int .i64 l[i].n.o.m.T)/\w.cell? ⟨g,off+i*13+8,none⟩=some (.int .i64 l[i].n.o.m.I)/\w.cell? ⟨g,off+i*13+9,none⟩=some (.int .i64 l[i].n.o.m.L)/\w.cell? ⟨g,off+i*13+10,none⟩=some (.string l[i].n.o.m.k)/\w.cell? ⟨g,off+i*13+11,none⟩=some (.int .i64 l[i].n.o.m.N)/\w.cell? ⟨g,off+i*13+12,none⟩=some (.int .i64 l[i].n.c):=by
 obtain⟨g,off,e,hg,hc⟩:=h i hi;refine⟨g,off,e,hg,?_,?_,?_,?_,?_,?_,?_,?_,?_,?_,?_,?_,?_⟩
 .simpa using hc 0 Aaa
 .exact JZ
 .exact Pm
 .exact Pn
 .exact WI
 .exact WJ
 .exact WL
 .simpa [aE5] using hc 7 Aaa
 .simpa [aE5] using hc 8 Aaa
 .simpa [aE5] using hc 9 Aaa
 .exact abn
 .simpa [aE5] using hc 11 Aaa
 .simpa [aE5] using hc 12 Aaa
theorem IG {l:List Td} (h:GR.Blk nR 110 w g l) (i:Nat) (hi:i < l.length):w.cell? ⟨g,i*13,none⟩=some (.int .i64 l[i].a)/\w.cell? ⟨g,i*13+1,none⟩=some (.int .i64 l[i].n.o.K)/\w.cell? ⟨g,i*13+2,none⟩=some (.int .i64 l[i].n.o.no)/\w.cell? ⟨g,i*13+3,none⟩=some (.string l[i].n.o.k)/\w.cell? ⟨g,i*13+4,none⟩=some (.int .i64 l[i].n.o.n)/\w.cell? ⟨g,i*13+5,none⟩=some (.int .i64 l[i].n.o.m.K)/\w.cell? ⟨g,i*13+6,none⟩=some (.int .i64 l[i].n.o.m.F)/\w.cell? ⟨g,i*13+7,none⟩=some (.int .i64 l[i].n.o.m.T)/\w.cell? ⟨g,i*13+8,none⟩=some (.int .i64 l[i].n.o.m.I)/\w.cell? ⟨g,i*13+9,none⟩=some (.int .i64 l[i].n.o.m.L)/\w.cell? ⟨g,i*13+10,none⟩=some (.string l[i].n.o.m.k)/\w.cell? ⟨g,i*13+11,none⟩=some (.int .i64 l[i].n.o.m.N)/\w.cell? ⟨g,i*13+12,none⟩=some (.int .i64 l[i].n.c):=
 ⟨by simpa using GR.Blk.cell h dP i hi 0 Aaa,by simpa using GR.Blk.cell h dP i hi 1 Aaa,by simpa using GR.Blk.cell h dP i hi 2 Aaa,by simpa using GR.Blk.cell h dP i hi 3 Aaa,by simpa using GR.Blk.cell h dP i hi 4 Aaa,by simpa using GR.Blk.cell h dP i hi 5 Aaa,by simpa using GR.Blk.cell h dP i hi 6 Aaa,by simpa using GR.Blk.cell h dP i hi 7 Aaa,by simpa using GR.Blk.cell h dP i hi 8 Aaa,by simpa using GR.Blk.cell h dP i hi 9 Aaa,by simpa using GR.Blk.cell h dP i hi 10 Aaa,by simpa using GR.Blk.cell h dP i hi 11 Aaa,by simpa using GR.Blk.cell h dP i hi 12 Aaa⟩
theorem YH:(prog.info? 110).map (λi=>(i.zero,i.size,i.bytes))=some (some (.agg #[.int .i64 0,.int .i64 0,.int .i64 0,.string ByteArray.empty,.int .i64 0,.int .i64 0,.int .i64 0,.int .i64 0,.int .i64 0,.int .i64 0,.string ByteArray.empty,.int .i64 0,.int .i64 0]),13,120):=Aab
theorem YJ (n:Nat) (hn:n<=2000000):∀W:World,(Instr.makeSlice 35 (.int .i64 (n:Int)) (.int .i64 (n:Int))).run prog W= .ok (.slice (some ⟨W.heap.size,0,none⟩) n n) (W.alloc (.cells (GR.flat nR (List.replicate n ⟨0,⟨⟨0,0,ByteArray.empty,0,⟨0,0,0,0,0,ByteArray.empty,0⟩⟩,0⟩⟩)).toArray 110)):=by
 obtain⟨i0,hi,hz0,hz1,hz2⟩:=aEY YH;intro W;have h:=run_make (P:=prog) W 35 110 i0 (.agg #[.int .i64 0,.int .i64 0,.int .i64 0,.string ByteArray.empty,.int .i64 0,.int .i64 0,.int .i64 0,.int .i64 0,.int .i64 0,.int .i64 0,.string ByteArray.empty,.int .i64 0,.int .i64 0]) underlying35 hi hz0 .i64 .i64 (n:Int) (n:Int) Aaa Aaa Aat Aaa;rw [hz1] at h;have e:=GR.made_flat nR 13 dP Aaa ⟨0,⟨⟨0,0,ByteArray.empty,0,⟨0,0,0,0,0,ByteArray.empty,0⟩⟩,0⟩⟩ (Value.cells (.agg #[.int .i64 0,.int .i64 0,.int .i64 0,.string ByteArray.empty,.int .i64 0,.int .i64 0,.int .i64 0,.int .i64 0,.int .i64 0,.int .i64 0,.string ByteArray.empty,.int .i64 0,.int .i64 0])) rfl n;exact ET
theorem af8 (cap:Nat) (l:List Td) (w:World) (hl:l.length<=1048576) (ha:GR.At nR 13 w a l):
 Calls prog 20 #[.slice a l.length cap] w λe w'=>e= .returned (.slice (some ⟨w.heap.size,0,none⟩) l.length l.length)/\GR.Blk nR 110 w' w.heap.size l/\aG w w':=by
 have hmk:=YJ l.length Aaa;have HA:=Hq ha;clear ha;go_in
 go_wp2_with fail;go_loopw [4] (λi wr=>∃k:Nat,k<=l.length/\i= .int .i64 k/\GR.Blk nR 110 wr w.heap.size (l.take k++List.replicate (l.length - k) ⟨0,⟨⟨0,0,ByteArray.empty,0,⟨0,0,0,0,0,ByteArray.empty,0⟩⟩,0⟩⟩)/\aG w wr) (λi _=>l.length - (intOf i).toNat)
 case atStart=>exact aeN
 case round=>
  open ao8 in exact IJ
theorem abJ (a b:Option Addr) (ca cb:Nat) (l:List Td) (w:World) (hl:l.length<=1048600) (ha:GR.At nR 13 w a l) (hb:GR.At nR 13 w b l):
 Calls prog 28 #[.slice a l.length ca,.slice b l.length cb] w (dK w (.bool true)):=by
 have HA:=Hq ha;have HB:=Hq hb;clear ha hb;go_in
 go_wp2_with fail;go_loopw [5] (λi wr=>∃k:Nat,k<=l.length/\i= .int .i64 k/\aG w wr) (λi _=>l.length - (intOf i).toNat)
 case atStart=>exact vQ
 case round=>
  obtain⟨k,hk,rfl,hbel⟩:=hrel;have aO:=Hq hbel;clear hbel;by_cases hlt:k < l.length
  .obtain⟨g1,o1,rfl,hg1,s0,s1,s2,s3,s4,s5,s6,s7,s8,s9,s10,s11,s12⟩:=oN (GR.At.below HA aO) k hlt;obtain⟨g2,o2,rfl,hg2,t0,t1,t2,t3,t4,t5,t6,t7,t8,t9,t10,t11,t12⟩:=oN (GR.At.below HB aO) k hlt;generalize l[k]=pu at *;have xS:=Hq (λw1=>afc pu w1);obtain⟨ta,⟨⟨oK,oZ,ok,on,⟨mK,mF,mT,mI,mL,mk,mN⟩⟩,ac⟩⟩:=pu;dsimp only at s0 s1 s2 s3 s4 s5 s6 s7 s8 s9 s10 s11 s12 t0 t1 t2 t3 t4 t5 t6 t7 t8 t9 t10 t11 t12;go_wp2_with fail
   go_region_held (λw'=>(w'.cell? ⟨g1,o1+k*13,none⟩=some (.int .i64 ta)/\w'.cell? ⟨g1,o1+k*13+1,none⟩=some (.int .i64 oK)/\w'.cell? ⟨g1,o1+k*13+2,none⟩=some (.int .i64 oZ)/\w'.cell? ⟨g1,o1+k*13+3,none⟩=some (.string ok)/\w'.cell? ⟨g1,o1+k*13+4,none⟩=some (.int .i64 on)/\w'.cell? ⟨g1,o1+k*13+5,none⟩=some (.int .i64 mK)/\w'.cell? ⟨g1,o1+k*13+6,none⟩=some (.int .i64 mF)/\w'.cell? ⟨g1,o1+k*13+7,none⟩=some (.int .i64 mT)/\w'.cell? ⟨g1,o1+k*13+8,none⟩=some (.int .i64 mI)/\w'.cell? ⟨g1,o1+k*13+9,none⟩=some (.int .i64 mL)/\w'.cell? ⟨g1,o1+k*13+10,none⟩=some (.string mk)/\w'.cell? ⟨g1,o1+k*13+11,none⟩=some (.int .i64 mN)/\w'.cell? ⟨g1,o1+k*13+12,none⟩=some (.int .i64 ac))/\w'.cell? ⟨g2,o2+k*13,none⟩=some (.int .i64 ta)/\w'.cell? ⟨g2,o2+k*13+1,none⟩=some (.int .i64 oK)/\w'.cell? ⟨g2,o2+k*13+2,none⟩=some (.int .i64 oZ)/\w'.cell? ⟨g2,o2+k*13+3,none⟩=some (.string ok)/\w'.cell? ⟨g2,o2+k*13+4,none⟩=some (.int .i64 on)/\w'.cell? ⟨g2,o2+k*13+5,none⟩=some (.int .i64 mK)/\w'.cell? ⟨g2,o2+k*13+6,none⟩=some (.int .i64 mF)/\w'.cell? ⟨g2,o2+k*13+7,none⟩=some (.int .i64 mT)/\w'.cell? ⟨g2,o2+k*13+8,none⟩=some (.int .i64 mI)/\w'.cell? ⟨g2,o2+k*13+9,none⟩=some (.int .i64 mL)/\w'.cell? ⟨g2,o2+k*13+10,none⟩=some (.string mk)/\w'.cell? ⟨g2,o2+k*13+11,none⟩=some (.int .i64 mN)/\w'.cell? ⟨g2,o2+k*13+12,none⟩=some (.int .i64 ac)) (go_keep)
    (first
     |(go_at_call 50;refine(xS _).mono ?_;rintro e w5 ⟨rfl,hb5⟩;have hb6:aG wr w5:=⟨hb5.os,hb5.tape,hb5.output,hb5.size,hb5.block⟩;clear hb5;have eO:=Hq (aO.trans (hb6.mono aO.size));have y0:=(hb6.cell (p:=⟨g1,o1+k*13,none⟩) hg1).trans s0;have y1:=(hb6.cell (p:=⟨g1,o1+k*13+1,none⟩) hg1).trans s1;have y2:=(hb6.cell (p:=⟨g1,o1+k*13+2,none⟩) hg1).trans s2;have y3:=(hb6.cell (p:=⟨g1,o1+k*13+3,none⟩) hg1).trans s3;have y4:=(hb6.cell (p:=⟨g1,o1+k*13+4,none⟩) hg1).trans s4;have y5:=(hb6.cell (p:=⟨g1,o1+k*13+5,none⟩) hg1).trans s5;have y6:=(hb6.cell (p:=⟨g1,o1+k*13+6,none⟩) hg1).trans s6;have y7:=(hb6.cell (p:=⟨g1,o1+k*13+7,none⟩) hg1).trans s7;have y8:=(hb6.cell (p:=⟨g1,o1+k*13+8,none⟩) hg1).trans s8;have y9:=(hb6.cell (p:=⟨g1,o1+k*13+9,none⟩) hg1).trans s9;have y10:=(hb6.cell (p:=⟨g1,o1+k*13+10,none⟩) hg1).trans s10;have y11:=(hb6.cell (p:=⟨g1,o1+k*13+11,none⟩) hg1).trans s11;have y12:=(hb6.cell (p:=⟨g1,o1+k*13+12,none⟩) hg1).trans s12;have z0:=(hb6.cell (p:=⟨g2,o2+k*13,none⟩) hg2).trans t0;have z1:=(hb6.cell (p:=⟨g2,o2+k*13+1,none⟩) hg2).trans t1;have z2:=(hb6.cell (p:=⟨g2,o2+k*13+2,none⟩) hg2).trans t2;have z3:=(hb6.cell (p:=⟨g2,o2+k*13+3,none⟩) hg2).trans t3;have z4:=(hb6.cell (p:=⟨g2,o2+k*13+4,none⟩) hg2).trans t4;have z5:=(hb6.cell (p:=⟨g2,o2+k*13+5,none⟩) hg2).trans t5;have z6:=(hb6.cell (p:=⟨g2,o2+k*13+6,none⟩) hg2).trans t6;have z7:=(hb6.cell (p:=⟨g2,o2+k*13+7,none⟩) hg2).trans t7;have z8:=(hb6.cell (p:=⟨g2,o2+k*13+8,none⟩) hg2).trans t8;have z9:=(hb6.cell (p:=⟨g2,o2+k*13+9,none⟩) hg2).trans t9;have z10:=(hb6.cell (p:=⟨g2,o2+k*13+10,none⟩) hg2).trans t10;have z11:=(hb6.cell (p:=⟨g2,o2+k*13+11,none⟩) hg2).trans t11;have z12:=(hb6.cell (p:=⟨g2,o2+k*13+12,none⟩) hg2).trans t12;clear hb6))
   all_goals
    go_wp2_with fail
    go_roundw
    case rel=>exact⟨k+1,Aaa,Aaf,eO⟩
    case measure=>simp[intOf];omega
  .exact ES
theorem adM (ca:Nat) (l:List Td) (z0:Int) (w:World) (h0:0<=z0) (h1:z0<=1048576) (hl:l.length<=maxLen) (hks:∀p∈l,p.n.o.k.size<=maxLen/\p.n.o.m.k.size<=maxLen) (ha:GR.At nR 13 w a l):
 Calls prog 12 #[.slice a l.length ca,.int .i64 z0] w λe w'=>∃r:Int,e= .returned (.int .i64 r)/\(r= -1\/0<=r/\r<=z0/\l.length<=1048576/\∀p∈l,p.n.o.k.size<=1048576/\p.n.o.m.k.size<=1048576)/\aG w w':=by
 have HA:=Hq ha;clear ha;unfold maxLen at hl;by_cases hbig:(l.length:Int)<=z0
 .have hn:¬(z0 - (l.length:Int) < 0):=Aaa
  go_in
  go_wp2_with fail;go_loopw [1,5] (λlf i wr=>∃(k:Nat) (z:Int),k<=l.length/\i= .int .i64 k/\lf= .int .i64 z/\0<=z/\z<=z0/\(∀p∈l.take k,p.n.o.k.size<=1048576/\p.n.o.m.k.size<=1048576)/\aG w wr) (λ_ i _=>l.length - (intOf i).toNat)
  case atStart=>exact LV
  case round=>
   open an7 in exact LQ
 .have hn:z0 - (l.length:Int) < 0:=Aaa
  go_in
  exact Pe
theorem rE {a:Option Addr} {l:List Gv} (h:GR.At oI 2 w a l) (i:Nat) (hi:i < l.length):∃g off,a=some ⟨g,off,none⟩/\g < w.heap.size/\w.cell? ⟨g,off+i*2,none⟩=some (.int .i64 l[i].a)/\w.cell? ⟨g,off+i*2+1,none⟩=some (.int .i64 l[i].no):=by
 obtain⟨g,off,e,hg,hc⟩:=h i hi;refine⟨g,off,e,hg,?_,?_⟩
 .simpa using hc 0 Aaa
 .exact JZ
theorem Es {l:List Gv} (h:GR.Blk oI 113 w g l) (i:Nat) (hi:i < l.length):w.cell? ⟨g,i*2,none⟩=some (.int .i64 l[i].a)/\w.cell? ⟨g,i*2+1,none⟩=some (.int .i64 l[i].no):=
 ⟨by simpa using GR.Blk.cell h jX i hi 0 Aaa,by simpa using GR.Blk.cell h jX i hi 1 Aaa⟩
theorem Ux:(prog.info? 113).map (λi=>(i.zero,i.size,i.bytes))=some (some (.agg #[.int .i64 0,.int .i64 0]),2,16):=Aab
theorem UJ (n:Nat) (hn:n<=2000000):∀W:World,(Instr.makeSlice 36 (.int .i64 (n:Int)) (.int .i64 (n:Int))).run prog W= .ok (.slice (some ⟨W.heap.size,0,none⟩) n n) (W.alloc (.cells (GR.flat oI (List.replicate n ⟨0,0⟩)).toArray 113)):=by
 obtain⟨i0,hi,hz0,hz1,hz2⟩:=aEY Ux;intro W;have h:=run_make (P:=prog) W 36 113 i0 (.agg #[.int .i64 0,.int .i64 0]) underlying36 hi hz0 .i64 .i64 (n:Int) (n:Int) Aaa Aaa Aat Aaa;rw [hz1] at h;have e:=GR.made_flat oI 2 jX Aaa ⟨0,0⟩ (Value.cells (.agg #[.int .i64 0,.int .i64 0])) rfl n;exact ET
theorem adN (cap:Nat) (l:List Gv) (w:World) (hl:l.length<=1048576) (ha:GR.At oI 2 w a l):
 Calls prog 21 #[.slice a l.length cap] w λe w'=>e= .returned (.slice (some ⟨w.heap.size,0,none⟩) l.length l.length)/\GR.Blk oI 113 w' w.heap.size l/\aG w w':=by
 have hmk:=UJ l.length Aaa;have HA:=Hq ha;clear ha;go_in
 go_wp2_with fail;go_loopw [4] (λi wr=>∃k:Nat,k<=l.length/\i= .int .i64 k/\GR.Blk oI 113 wr w.heap.size (l.take k++List.replicate (l.length - k) ⟨0,0⟩)/\aG w wr) (λi _=>l.length - (intOf i).toNat)
 case atStart=>exact aeN
 case round=>
  open ao7 in exact IJ
theorem Yg (a b:Option Addr) (ca cb:Nat) (l:List Gv) (w:World) (hl:l.length<=1048600) (ha:GR.At oI 2 w a l) (hb:GR.At oI 2 w b l):
 Calls prog 29 #[.slice a l.length ca,.slice b l.length cb] w (dK w (.bool true)):=by
 have HA:=Hq ha;have HB:=Hq hb;clear ha hb;go_in
 go_wp2_with fail;go_loopw [5] (λi wr=>∃k:Nat,k<=l.length/\i= .int .i64 k/\aG w wr) (λi _=>l.length - (intOf i).toNat)
 case atStart=>exact vQ
 case round=>
  obtain⟨k,hk,rfl,hbel⟩:=hrel;have aO:=Hq hbel;clear hbel;by_cases hlt:k < l.length
  .obtain⟨g1,o1,rfl,hg1,s0,s1⟩:=rE (GR.At.below HA aO) k hlt;obtain⟨g2,o2,rfl,hg2,t0,t1⟩:=rE (GR.At.below HB aO) k hlt;generalize l[k]=pu at *;have xS:=Hq (λw1=>abE pu w1);obtain⟨ga,gn⟩:=pu;dsimp only at s0 s1 t0 t1;go_wp2_with fail
   go_region_held (λw'=>(w'.cell? ⟨g1,o1+k*2,none⟩=some (.int .i64 ga)/\w'.cell? ⟨g1,o1+k*2+1,none⟩=some (.int .i64 gn))/\w'.cell? ⟨g2,o2+k*2,none⟩=some (.int .i64 ga)/\w'.cell? ⟨g2,o2+k*2+1,none⟩=some (.int .i64 gn)) (go_keep)
    (first
     |(go_at_call 51;refine(xS _).mono ?_;rintro e w5 ⟨rfl,hb5⟩;have hb6:aG wr w5:=⟨hb5.os,hb5.tape,hb5.output,hb5.size,hb5.block⟩;clear hb5;have eO:=Hq (aO.trans (hb6.mono aO.size));have y0:=(hb6.cell (p:=⟨g1,o1+k*2,none⟩) hg1).trans s0;have y1:=(hb6.cell (p:=⟨g1,o1+k*2+1,none⟩) hg1).trans s1;have z0:=(hb6.cell (p:=⟨g2,o2+k*2,none⟩) hg2).trans t0;have z1:=(hb6.cell (p:=⟨g2,o2+k*2+1,none⟩) hg2).trans t1;clear hb6))
   all_goals
    go_wp2_with fail
    go_roundw
    case rel=>exact⟨k+1,Aaa,Aaf,eO⟩
    case measure=>simp[intOf];omega
  .exact ES
structure Kp where
 base:Nd
 node:Nd
 log:ByteArray
 safe:Int
 wait:List Mg
 asked:List An
structure KA where
 b:bg
 n:bg
 wa:Option Addr
 wc:Nat
 aa:Option Addr
 ac:Nat
abbrev yN (k:Kp) (A:KA):List Value:=[.int .i64 k.base.id,.int .i64 k.base.par,.slice A.b.k k.base.kids.length A.b.ck,.int .i64 k.base.next,.slice A.b.p k.base.pu.length A.b.cp,.slice A.b.o k.base.out.length A.b.co,.slice A.b.s k.base.seen.length A.b.cs,.int .i64 k.base.old,.slice A.b.r k.base.reqs.length A.b.cr,.int .i64 k.node.id,.int .i64 k.node.par,.slice A.n.k k.node.kids.length A.n.ck,.int .i64 k.node.next,.slice A.n.p k.node.pu.length A.n.cp,.slice A.n.o k.node.out.length A.n.co,.slice A.n.s k.node.seen.length A.n.cs,.int .i64 k.node.old,.slice A.n.r k.node.reqs.length A.n.cr,.string k.log,.int .i64 k.safe,.slice A.wa k.wait.length A.wc,.slice A.aa k.asked.length A.ac]
abbrev kpv (k:Kp) (A:KA):Value:= .agg #[.int .i64 k.base.id,.int .i64 k.base.par,.slice A.b.k k.base.kids.length A.b.ck,.int .i64 k.base.next,.slice A.b.p k.base.pu.length A.b.cp,.slice A.b.o k.base.out.length A.b.co,.slice A.b.s k.base.seen.length A.b.cs,.int .i64 k.base.old,.slice A.b.r k.base.reqs.length A.b.cr,.int .i64 k.node.id,.int .i64 k.node.par,.slice A.n.k k.node.kids.length A.n.ck,.int .i64 k.node.next,.slice A.n.p k.node.pu.length A.n.cp,.slice A.n.o k.node.out.length A.n.co,.slice A.n.s k.node.seen.length A.n.cs,.int .i64 k.node.old,.slice A.n.r k.node.reqs.length A.n.cr,.string k.log,.int .i64 k.safe,.slice A.wa k.wait.length A.wc,.slice A.aa k.asked.length A.ac]
structure oL (w:World) (A:KA) (k:Kp):Prop where
 kb:bX w A.b k.base
 kn:bX w A.n k.node
 kw:GR.At iE 7 w A.wa k.wait
 ka:GR.At gM 12 w A.aa k.asked
theorem oL.below {A:KA} {k:Kp} (h:oL w A k) (hb:aG w w'):oL w' A k:=⟨h.kb.below hb,h.kn.below hb,GR.At.below h.kw hb,GR.At.below h.ka hb⟩
structure mO (k:Kp) (z:Nat):Prop where
 b:eH k.base z
 n:eH k.node z
 l:k.log.size<=z
 w:k.wait.length<=z
 a:k.asked.length<=z
 wk:∀p∈k.wait,p.k.size<=z
 ak:∀p∈k.asked,p.o.k.size<=z/\p.o.m.k.size<=z
theorem yD {v0 v1 v2 v3 v4 v5 v6 v7 v8 v9 v10 v11 v12 v13 v14 v15 v16 v17 v18 v19 v20 v21:Value} {t:TypeId} (h:w.heap[g]?=some (.cells #[v0,v1,v2,v3,v4,v5,v6,v7,v8,v9,v10,v11,v12,v13,v14,v15,v16,v17,v18,v19,v20,v21] t (0,0))):w.cell? ⟨g,0,none⟩=some v0/\w.cell? ⟨g,1,none⟩=some v1/\w.cell? ⟨g,2,none⟩=some v2/\w.cell? ⟨g,3,none⟩=some v3/\w.cell? ⟨g,4,none⟩=some v4/\w.cell? ⟨g,5,none⟩=some v5/\w.cell? ⟨g,6,none⟩=some v6/\w.cell? ⟨g,7,none⟩=some v7/\w.cell? ⟨g,8,none⟩=some v8/\w.cell? ⟨g,9,none⟩=some v9/\w.cell? ⟨g,10,none⟩=some v10/\w.cell? ⟨g,11,none⟩=some v11/\w.cell? ⟨g,12,none⟩=some v12/\w.cell? ⟨g,13,none⟩=some v13/\w.cell? ⟨g,14,none⟩=some v14/\w.cell? ⟨g,15,none⟩=some v15/\w.cell? ⟨g,16,none⟩=some v16/\w.cell? ⟨g,17,none⟩=some v17/\w.cell? ⟨g,18,none⟩=some v18/\w.cell? ⟨g,19,none⟩=some v19/\w.cell? ⟨g,20,none⟩=some v20/\w.cell? ⟨g,21,none⟩=some v21:=by
 have hc:∀i,w.cell? ⟨g,i,none⟩=#[v0,v1,v2,v3,v4,v5,v6,v7,v8,v9,v10,v11,v12,v13,v14,v15,v16,v17,v18,v19,v20,v21][i]?:=λi=>aEz w g i _ t (0,0) h
 exact⟨hc 0,hc 1,hc 2,hc 3,hc 4,hc 5,hc 6,hc 7,hc 8,hc 9,hc 10,hc 11,hc 12,hc 13,hc 14,hc 15,hc 16,hc 17,hc 18,hc 19,hc 20,hc 21⟩
theorem adK (k:Kp) (A:KA) (z:Int) (w:World) (g0:0<=z) (g1:z<=1048576) (hz:mO k maxLen) (ha:oL w A k):
 Calls prog 31 #[kpv k A,.int .i64 z] w λe w'=>∃r:Int,e= .returned (.int .i64 r)/\(r= -1\/0<=r/\r<=1048576/\mO k 1048576)/\aG w w':=by
 have H1:=Hq (λz w1 (hb:aG w w1) (h0:0<=z) (h1:z<=1048576)=>Xx k.base A.b z w1 h0 h1 hz.b (ha.below hb).kb);have H2:=Hq (λz w1 (hb:aG w w1) (h0:0<=z) (h1:z<=1048576)=>Xx k.node A.n z w1 h0 h1 hz.n (ha.below hb).kn);have H3:=Hq (λz w1 (hb:aG w w1) (h0:0<=z) (h1:z<=1048576)=>afX A.wa A.wc k.wait z w1 h0 h1 hz.w hz.wk (ha.below hb).kw);have H4:=Hq (λz w1 (hb:aG w w1) (h0:0<=z) (h1:z<=1048576)=>Vp A.aa A.ac k.asked z w1 h0 h1 hz.a hz.ak (ha.below hb).ka);have HQ:Hid (eH k.base 1048576->eH k.node 1048576->k.log.size<=1048576->(k.wait.length<=1048576/\∀p∈k.wait,p.k.size<=1048576)->(k.asked.length<=1048576/\∀p∈k.asked,p.o.k.size<=1048576/\p.o.m.k.size<=1048576)->mO k 1048576):=λa b c d e=>⟨a,b,c,d.1,e.1,d.2,e.2⟩
 have HB0:=Hq (aEu w (.cells (yN k A).toArray 83));have jC:=Hq (au w (.cells (yN k A).toArray 83));have hll:=hz.l;unfold maxLen at hll;clear ha hz;generalize mO k 1048576=KZ at *;generalize eH k.base 1048576=Z1 at *;generalize eH k.node 1048576=Z2 at *;obtain⟨B0,N0,lg,sf,wt,sk⟩:=k;obtain⟨AB,AN,wa,wc,aa,ac⟩:=A;dsimp only at H1 H2 H3 H4 HQ HB0 jC hll ⊢;obtain⟨c0,c1,c2,c3,c4,c5,c6,c7,c8,c9,c10,c11,c12,c13,c14,c15,c16,c17,c18,c19,c20,c21⟩:=yD HB0;go_in
 go_wp2_with fail;refine(H1 _ _ jC g0 g1).mono ?_;rintro e w1 ⟨z1,rfl,hb,hcase⟩;have HB1:=Hq (aj HB0 hb);have jM:=Hq (jC.trans (hb.mono jC.size));clear hb c0 c1 c2 c3 c4 c5 c6 c7 c8 c9 c10 c11 c12 c13 c14 c15 c16 c17 c18 c19 c20 c21 HB0 jC;rcases hcase with rfl|⟨p0,p1,p2⟩
 case' inl=>
  go_wp2_with fail;go_ret;exact⟨-1,rfl,.inl rfl,jM⟩
 have K1:=Hq p2;have q1:decide (z1 < 0)=false:=aEw Aaa;clear p2;obtain⟨c0,c1,c2,c3,c4,c5,c6,c7,c8,c9,c10,c11,c12,c13,c14,c15,c16,c17,c18,c19,c20,c21⟩:=yD HB1;go_wp2_with fail;refine(H2 _ _ jM p0 p1).mono ?_;rintro e w2 ⟨z2,rfl,hb,hcase⟩;have HB2:=Hq (aj HB1 hb);have HL2:=Hq (jM.trans (hb.mono jM.size));clear hb c0 c1 c2 c3 c4 c5 c6 c7 c8 c9 c10 c11 c12 c13 c14 c15 c16 c17 c18 c19 c20 c21 HB1 jM;rcases hcase with rfl|⟨r0,r1,p2⟩
 case' inl=>
  exact abh
 have K2:=Hq p2;have q2:decide (z2 < 0)=false:=aEw Aaa;clear p2;obtain⟨c0,c1,c2,c3,c4,c5,c6,c7,c8,c9,c10,c11,c12,c13,c14,c15,c16,c17,c18,c19,c20,c21⟩:=yD HB2;by_cases hlg:(lg.size:Int)<=z2
 case' neg=>
  have q3:z2 - (lg.size:Int) < 0:=Aaa
  exact abh
 have q3:¬(z2 - (lg.size:Int) < 0):=Aaa
 go_wp2_with fail;refine(H3 _ _ HL2 Aaa Aaa).mono ?_;rintro e w3 ⟨z3,rfl,hcase,hb⟩;have HB3:=Hq (aj HB2 hb);have lu:=Hq (HL2.trans (hb.mono HL2.size));clear hb c0 c1 c2 c3 c4 c5 c6 c7 c8 c9 c10 c11 c12 c13 c14 c15 c16 c17 c18 c19 c20 c21 HB2 HL2;rcases hcase with rfl|⟨s0,s1,s2,s3⟩
 case' inl=>
  go_wp2_with fail;go_ret;exact⟨-1,rfl,.inl rfl,lu⟩
 have K3:=Hq (And.intro s2 s3);have q4:decide (z3 < 0)=false:=aEw Aaa;clear s2 s3;obtain⟨c0,c1,c2,c3,c4,c5,c6,c7,c8,c9,c10,c11,c12,c13,c14,c15,c16,c17,c18,c19,c20,c21⟩:=yD HB3;go_wp2_with fail;refine(H4 _ _ lu Aaa Aaa).mono ?_;rintro e w4 ⟨z4,rfl,hcase,hb⟩;have xU:=Hq (lu.trans (hb.mono lu.size));clear hb c0 c1 c2 c3 c4 c5 c6 c7 c8 c9 c10 c11 c12 c13 c14 c15 c16 c17 c18 c19 c20 c21 HB3 lu;rcases hcase with rfl|⟨t0,t1,t2,t3⟩
 case' inl=>
  exact abj
 have K4:=Hq (And.intro t2 t3);have q5:decide (z4 < 0)=false:=aEw Aaa;clear t2 t3;go_wp2_with fail;go_ret;exact⟨z4,rfl,.inr ⟨t0,Aaa,HQ K1 K2 Aaa K3 K4⟩,xU⟩
theorem abF (k:Kp) (A B:KA) (w:World) (hz:mO k 1048576) (ha:oL w A k) (hb:oL w B k):
 Calls prog 49 #[kpv k A,kpv k B] w (dK w (.bool true)):=by
 have H1:=Hq (λw1 (h:aG w w1)=>abH k.base A.b B.b w1 (hz.b.mono Aaa) (ha.below h).kb (hb.below h).kb);have H2:=Hq (λw1 (h:aG w w1)=>abH k.node A.n B.n w1 (hz.n.mono Aaa) (ha.below h).kn (hb.below h).kn);have H3:=Hq (λw1 (h:aG w w1)=>ae8 A.wa B.wa A.wc B.wc k.wait w1 (by have:=hz.w;omega) (ha.below h).kw (hb.below h).kw);have H4:=Hq (λw1 (h:aG w w1)=>Ug A.aa B.aa A.ac B.ac k.asked w1 (by have:=hz.a;omega) (ha.below h).ka (hb.below h).ka);have hS:(w.alloc (.cells (yN k A).toArray 57)).heap.size=w.heap.size+1:=Aac
 have hA0:=aj (aEu w (.cells (yN k A).toArray 57)) (au (w.alloc (.cells (yN k A).toArray 57)) (.cells (yN k B).toArray 57));have hB0:=aEu (w.alloc (.cells (yN k A).toArray 57)) (.cells (yN k B).toArray 57);rw [hS] at hB0;have SA:=Hq hA0;have HB0:=Hq hB0;have jC:=Hq ((au w (.cells (yN k A).toArray 57)).trans ((au (w.alloc (.cells (yN k A).toArray 57)) (.cells (yN k B).toArray 57)).mono Aaa));clear ha hb hz hS hA0 hB0;obtain⟨B0,N0,lg,sf,wt,sk⟩:=k;obtain⟨AB,AN,wa,wc,aa,ac⟩:=A;obtain⟨AB2,AN2,wa2,wc2,aa2,ac2⟩:=B;dsimp only at H1 H2 H3 H4 SA HB0 jC ⊢;go_in
 obtain⟨c0,c1,c2,c3,c4,c5,c6,c7,c8,c9,c10,c11,c12,c13,c14,c15,c16,c17,c18,c19,c20,c21⟩:=yD SA;obtain⟨d0,d1,d2,d3,d4,d5,d6,d7,d8,d9,d10,d11,d12,d13,d14,d15,d16,d17,d18,d19,d20,d21⟩:=yD HB0;open avM in exact ahA
abbrev JW:=Kp×KA
abbrev mE (x:JW):List Value:=[.int .i64 x.1.base.id,.int .i64 x.1.base.par,.slice x.2.b.k x.1.base.kids.length x.2.b.ck,.int .i64 x.1.base.next,.slice x.2.b.p x.1.base.pu.length x.2.b.cp,.slice x.2.b.o x.1.base.out.length x.2.b.co,.slice x.2.b.s x.1.base.seen.length x.2.b.cs,.int .i64 x.1.base.old,.slice x.2.b.r x.1.base.reqs.length x.2.b.cr,.int .i64 x.1.node.id,.int .i64 x.1.node.par,.slice x.2.n.k x.1.node.kids.length x.2.n.ck,.int .i64 x.1.node.next,.slice x.2.n.p x.1.node.pu.length x.2.n.cp,.slice x.2.n.o x.1.node.out.length x.2.n.co,.slice x.2.n.s x.1.node.seen.length x.2.n.cs,.int .i64 x.1.node.old,.slice x.2.n.r x.1.node.reqs.length x.2.n.cr,.string x.1.log,.int .i64 x.1.safe,.slice x.2.wa x.1.wait.length x.2.wc,.slice x.2.aa x.1.asked.length x.2.ac]
theorem jN (x:JW):(mE x).length=22:=rfl
structure uX (w:World) (a:Option Addr) (L:List JW):Prop where
 row:GR.At mE 22 w a L
 each:∀x∈L,oL w x.2 x.1
theorem uX.below {a:Option Addr} {L:List JW} (h:uX w a L) (hb:aG w w'):uX w' a L:=⟨GR.At.below h.row hb,λx hx=>(h.each x hx).below hb⟩
theorem uX.range {a:Option Addr} {L:List JW} (h:uX w a L) (i:Nat) (hi:i < L.length):∃g off,a=some ⟨g,off,none⟩/\g < w.heap.size/\w.rangeAt g (off+i*22) (mE L[i]):=by
 obtain⟨g,off,e,hg,hc⟩:=h.row i hi;refine⟨g,off,e,hg,λj v hv=>?_⟩
 have hj:j < 22:=by
  have:=(aFh.1 hv).1;rw [jN] at this;exact this
 rw [aE5];exact(hc j hj).trans hv
theorem ZH (ca:Nat) (l:List JW) (z0:Int) (w:World) (h0:0<=z0) (h1:z0<=1048576) (hl:l.length<=maxLen) (hks:∀p∈l,mO p.1 maxLen) (ha:uX w a l):
 Calls prog 10 #[.slice a l.length ca,.int .i64 z0] w λe w'=>∃r:Int,e= .returned (.int .i64 r)/\(r= -1\/0<=r/\r<=1048576/\l.length<=1048576/\∀p∈l,mO p.1 1048576)/\aG w w':=by
 have HA:=Hq ha;clear ha;unfold maxLen at hl;by_cases hbig:(l.length:Int)<=z0
 .have hn:¬(z0 - (l.length:Int) < 0):=Aaa
  go_in
  go_wp2_with fail;go_loopw [1,5] (λlf i wr=>∃(k:Nat) (z:Int),k<=l.length/\i= .int .i64 k/\lf= .int .i64 z/\0<=z/\z<=1048576/\(∀p∈l.take k,mO p.1 1048576)/\aG w wr) (λ_ i _=>l.length - (intOf i).toNat)
  case atStart=>exact LV
  case round=>
   open aoa in exact LQ
 .have hn:z0 - (l.length:Int) < 0:=Aaa
  go_in
  exact Pe
end Go.Proofs.YtfachhcijcjbpaaGreatDoor
