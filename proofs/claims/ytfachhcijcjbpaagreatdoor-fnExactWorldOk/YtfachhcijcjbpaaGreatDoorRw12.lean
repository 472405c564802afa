/- Parts. -/
import Derived.Test.YtfachhcijcjbpaaGreatDoorRw8
import Derived.Test.YtfachhcijcjbpaaGreatDoorRw10
import Derived.Test.YtfachhcijcjbpaaGreatDoorRw9
namespace Go.Proofs.YtfachhcijcjbpaaGreatDoor
open Go.Proofs.Tryz
set_option maxHeartbeats 4000000
set_option maxRecDepth 100000
open Go.RowKit
open Mth
variable (b off cap:Nat) (l:List Pu) (key:ByteArray) (n:Int) (w:World) {g:Nat} {dm df ds:Int} {a:Option Addr}
abbrev SentAt (w:World) (a:Option Addr) (l:List jI):Prop:=GR.At aN 4 w a l
abbrev EM (p:jI):Value:= .agg (gB p.i p.t p.k p.n)
theorem SentAt.four {w:World} {l:List jI} (h:SentAt w a l) (i:Nat) (hi:i < l.length):∃g off,a=some ⟨g,off,none⟩/\g < w.heap.size/\w.cell? ⟨g,off+i*4,none⟩=some (.int .i64 l[i].i)/\w.cell? ⟨g,off+i*4+1,none⟩=some (.int .i64 l[i].t)/\w.cell? ⟨g,off+i*4+2,none⟩=some (.string l[i].k)/\w.cell? ⟨g,off+i*4+3,none⟩=some (.int .i64 l[i].n):=by
 exact aiE
abbrev lN (w:World) (g:Nat) (l:List jI):Prop:=GR.Blk aN 129 w g l
theorem lN.four {w:World} {l:List jI} (h:lN w g l) (i:Nat) (hi:i < l.length):w.cell? ⟨g,i*4,none⟩=some (.int .i64 l[i].i)/\w.cell? ⟨g,i*4+1,none⟩=some (.int .i64 l[i].t)/\w.cell? ⟨g,i*4+2,none⟩=some (.string l[i].k)/\w.cell? ⟨g,i*4+3,none⟩=some (.int .i64 l[i].n):=
 ⟨by simpa using GR.Blk.cell h aX i hi 0 Aaa,by simpa using GR.Blk.cell h aX i hi 1 Aaa,by simpa using GR.Blk.cell h aX i hi 2 Aaa,by simpa using GR.Blk.cell h aX i hi 3 Aaa⟩
theorem lN.step {w w':World} {l:List jI} (h:lN w g l) (hb:aG w w'):lN w' g l:=by
 have hl:=GR.Blk.lt h;unfold lN GR.Blk at *;rw [hb.block g hl];exact h
theorem FT:(prog.info? 129).map (λi=>(i.zero,i.size,i.bytes))=some (some (.agg (gB 0 0 ByteArray.empty 0)),4,40):=Aab
theorem acT (n:Nat) (hn:n<=2000000):∀W:World,(Instr.makeSlice 49 (.int .i64 (n:Int)) (.int .i64 (n:Int))).run prog W= .ok (.slice (some ⟨W.heap.size,0,none⟩) n n) (W.alloc (.cells (GR.flat aN (List.replicate n ⟨0,0,ByteArray.empty,0⟩)).toArray 129)):=by
 obtain⟨i0,hi,hz0,hz1,hz2⟩:=aEY FT;intro W;have h:=run_make (P:=prog) W 49 129 i0 (.agg (gB 0 0 ByteArray.empty 0)) underlying49 hi hz0 .i64 .i64 (n:Int) (n:Int) Aaa Aaa Aat Aaa;rw [hz1] at h;have e:=GR.made_flat aN 4 aX Aaa ⟨0,0,ByteArray.empty,0⟩ (Value.cells (.agg (gB 0 0 ByteArray.empty 0))) rfl n;exact ET
theorem alO (p:jI) (w:World):Calls prog 146 #[EM p] w (dK w (EM p)):=by
 obtain⟨pi,pt,pk,pn⟩:=p;go_in
 go_wp2_with fail;refine aEE (v:= .agg (gB pi pt pk pn)) (by simp[results,results146,go_sem]) rfl ⟨rfl,?_⟩;exact abu
theorem akE (p:jI) (w:World):Calls prog 164 #[EM p,EM p] w (dK w (.bool true)):=by
 obtain⟨pi,pt,pk,pn⟩:=p;go_in
 exact abt
theorem Oc (l:List jI) (z:jI) (k:Nat) (hk:k < l.length):(l.take k++List.replicate (l.length - k) z).set k l[k]=l.take (k+1)++List.replicate (l.length - (k+1)) z:=by
 exact XU
theorem af7 (a:Option Addr) (cap:Nat) (l:List jI) (w:World) (hl:l.length<=1048576) (ha:SentAt w a l):
 Calls prog 104 #[.slice a l.length cap] w λe w'=>e= .returned (.slice (some ⟨w.heap.size,0,none⟩) l.length l.length)/\lN w' w.heap.size l/\aG w w':=by
 have hmk:=acT l.length Aaa;have HA:=Hq ha;clear ha;go_in
 go_wp2_with fail;go_loopw [4] (λi wr=>∃k:Nat,k<=l.length/\i= .int .i64 k/\lN wr w.heap.size (l.take k++List.replicate (l.length - k) ⟨0,0,ByteArray.empty,0⟩)/\aG w wr) (λi _=>l.length - (intOf i).toNat)
 case atStart=>exact⟨0,aEN _,rfl,by unfold lN GR.Blk;rw [aGb,aFN,Nat.sub_zero];exact aEu w _,aV w _⟩
 case round=>
  open ao5 in exact IJ
theorem alI (p:jI) (left:Int) (w:World) (h0:0<=left) (h1:left<=1048576) (hk:p.k.size<=maxLen):Calls prog 128 #[EM p,.int .i64 left] w λe w'=>e= .returned (.int .i64 (if (p.k.size:Int)<=left then left - p.k.size else -1))/\aG w w':=by
 obtain⟨pi,pt,pk,pn⟩:=p;dsimp only at hk ⊢;unfold maxLen at hk;by_cases hc:(pk.size:Int)<=left
 .rw [aER hc];have hn:¬(left - (pk.size:Int) < 0):=Aaa
  go_in
  exact XW
 .rw [aEG hc];have hn:left - (pk.size:Int) < 0:=Aaa
  go_in
  exact XW
theorem afb (a b:Option Addr) (ca cb:Nat) (l:List jI) (w:World) (hl:l.length<=1048600) (ha:SentAt w a l) (hb:SentAt w b l):
 Calls prog 122 #[.slice a l.length ca,.slice b l.length cb] w (dK w (.bool true)):=by
 have HA:=Hq ha;have HB:=Hq hb;clear ha hb;go_in
 go_wp2_with fail;go_loopw [5] (λi wr=>∃k:Nat,k<=l.length/\i= .int .i64 k/\aG w wr) (λi _=>l.length - (intOf i).toNat)
 case atStart=>exact vQ
 case round=>
  obtain⟨k,hk,rfl,hbel⟩:=hrel;have aO:=Hq hbel;clear hbel;by_cases hlt:k < l.length
  .obtain⟨g1,o1,rfl,hg1,s0,s1,s2,s3⟩:=SentAt.four (GR.At.below HA aO) k hlt;obtain⟨g2,o2,rfl,hg2,t0,t1,t2,t3⟩:=SentAt.four (GR.At.below HB aO) k hlt;generalize l[k]=pu at *;have xS:=Hq (λw1=>akE pu w1);obtain⟨pi,pt,pk,pn⟩:=pu;dsimp only at s0 s1 s2 s3 t0 t1 t2 t3;go_wp2_with fail
   go_region_held (λw'=>(w'.cell? ⟨g1,o1+k*4,none⟩=some (.int .i64 pi)/\w'.cell? ⟨g1,o1+k*4+1,none⟩=some (.int .i64 pt)/\w'.cell? ⟨g1,o1+k*4+2,none⟩=some (.string pk)/\w'.cell? ⟨g1,o1+k*4+3,none⟩=some (.int .i64 pn))/\w'.cell? ⟨g2,o2+k*4,none⟩=some (.int .i64 pi)/\w'.cell? ⟨g2,o2+k*4+1,none⟩=some (.int .i64 pt)/\w'.cell? ⟨g2,o2+k*4+2,none⟩=some (.string pk)/\w'.cell? ⟨g2,o2+k*4+3,none⟩=some (.int .i64 pn)) (go_keep)
    (first
     |(go_at_call 164;refine(xS _).mono ?_;rintro e w5 ⟨rfl,hb5⟩;have hb6:aG wr w5:=⟨hb5.os,hb5.tape,hb5.output,hb5.size,hb5.block⟩;clear hb5;have eO:=Hq (aO.trans (hb6.mono aO.size));have y0:=(hb6.cell (p:=⟨g1,o1+k*4,none⟩) hg1).trans s0;have y1:=(hb6.cell (p:=⟨g1,o1+k*4+1,none⟩) hg1).trans s1;have y2:=(hb6.cell (p:=⟨g1,o1+k*4+2,none⟩) hg1).trans s2;have y3:=(hb6.cell (p:=⟨g1,o1+k*4+3,none⟩) hg1).trans s3;have z0:=(hb6.cell (p:=⟨g2,o2+k*4,none⟩) hg2).trans t0;have z1:=(hb6.cell (p:=⟨g2,o2+k*4+1,none⟩) hg2).trans t1;have z2:=(hb6.cell (p:=⟨g2,o2+k*4+2,none⟩) hg2).trans t2;have z3:=(hb6.cell (p:=⟨g2,o2+k*4+3,none⟩) hg2).trans t3;clear hb6))
   all_goals
    go_wp2_with fail
    go_roundw
    case rel=>exact⟨k+1,Aaa,Aaf,eO⟩
    case measure=>simp[intOf];omega
  .exact ES
theorem af0 (a:Option Addr) (ca:Nat) (l:List jI) (z0:Int) (w:World) (h0:0<=z0) (h1:z0<=1048576) (hl:l.length<=maxLen) (hks:∀p∈l,p.k.size<=maxLen) (ha:SentAt w a l):
 Calls prog 85 #[.slice a l.length ca,.int .i64 z0] w λe w'=>∃r:Int,e= .returned (.int .i64 r)/\aG w w'/\(r= -1\/0<=r/\r<=1048576/\l.length<=1048576/\∀p∈l,p.k.size<=1048576):=by
 have HA:=Hq ha;clear ha;unfold maxLen at hl;by_cases hbig:(l.length:Int)<=z0
 .have hn:¬(z0 - (l.length:Int) < 0):=Aaa
  go_in
  go_wp2_with fail;go_loopw [1,5] (λlf i wr=>∃(k:Nat) (z:Int),k<=l.length/\i= .int .i64 k/\lf= .int .i64 z/\0<=z/\z<=1048576/\(∀p∈l.take k,p.k.size<=1048576)/\aG w wr) (λ_ i _=>l.length - (intOf i).toNat)
  case atStart=>exact LV
  case round=>
   open an4 in exact LQ
 .have hn:z0 - (l.length:Int) < 0:=Aaa
  go_in
  exact Wz
abbrev fJ (w:World) (a:Option Addr) (l:List Rq):Prop:=GR.At aM 4 w a l
abbrev aaF (p:Rq):Value:= .agg (gJ p.no p.k p.n p.s)
theorem fJ.four {w:World} {l:List Rq} (h:fJ w a l) (i:Nat) (hi:i < l.length):∃g off,a=some ⟨g,off,none⟩/\g < w.heap.size/\w.cell? ⟨g,off+i*4,none⟩=some (.int .i64 l[i].no)/\w.cell? ⟨g,off+i*4+1,none⟩=some (.string l[i].k)/\w.cell? ⟨g,off+i*4+2,none⟩=some (.int .i64 l[i].n)/\w.cell? ⟨g,off+i*4+3,none⟩=some (.int .i64 l[i].s):=by
 exact aiE
abbrev pY (w:World) (g:Nat) (l:List Rq):Prop:=GR.Blk aM 133 w g l
theorem pY.four {w:World} {l:List Rq} (h:pY w g l) (i:Nat) (hi:i < l.length):w.cell? ⟨g,i*4,none⟩=some (.int .i64 l[i].no)/\w.cell? ⟨g,i*4+1,none⟩=some (.string l[i].k)/\w.cell? ⟨g,i*4+2,none⟩=some (.int .i64 l[i].n)/\w.cell? ⟨g,i*4+3,none⟩=some (.int .i64 l[i].s):=
 ⟨by simpa using GR.Blk.cell h bQ i hi 0 Aaa,by simpa using GR.Blk.cell h bQ i hi 1 Aaa,by simpa using GR.Blk.cell h bQ i hi 2 Aaa,by simpa using GR.Blk.cell h bQ i hi 3 Aaa⟩
theorem pY.step {w w':World} {l:List Rq} (h:pY w g l) (hb:aG w w'):pY w' g l:=by
 have hl:=GR.Blk.lt h;unfold pY GR.Blk at *;rw [hb.block g hl];exact h
theorem Ai:(prog.info? 133).map (λi=>(i.zero,i.size,i.bytes))=some (some (.agg (gJ 0 ByteArray.empty 0 0)),4,40):=Aab
theorem afD (n:Nat) (hn:n<=2000000):∀W:World,(Instr.makeSlice 51 (.int .i64 (n:Int)) (.int .i64 (n:Int))).run prog W= .ok (.slice (some ⟨W.heap.size,0,none⟩) n n) (W.alloc (.cells (GR.flat aM (List.replicate n ⟨0,ByteArray.empty,0,0⟩)).toArray 133)):=by
 obtain⟨i0,hi,hz0,hz1,hz2⟩:=aEY Ai;intro W;have h:=run_make (P:=prog) W 51 133 i0 (.agg (gJ 0 ByteArray.empty 0 0)) underlying51 hi hz0 .i64 .i64 (n:Int) (n:Int) Aaa Aaa Aat Aaa;rw [hz1] at h;have e:=GR.made_flat aM 4 bQ Aaa ⟨0,ByteArray.empty,0,0⟩ (Value.cells (.agg (gJ 0 ByteArray.empty 0 0))) rfl n;exact ET
theorem azu (p:Rq) (w:World):Calls prog 148 #[aaF p] w (dK w (aaF p)):=by
 obtain⟨pno,pk,pn,ps⟩:=p;go_in
 go_wp2_with fail;refine aEE (v:= .agg (gJ pno pk pn ps)) (by simp[results,results148,go_sem]) rfl ⟨rfl,?_⟩;exact abu
theorem axQ (p:Rq) (w:World):Calls prog 166 #[aaF p,aaF p] w (dK w (.bool true)):=by
 obtain⟨pno,pk,pn,ps⟩:=p;go_in
 exact abt
theorem Sb (l:List Rq) (z:Rq) (k:Nat) (hk:k < l.length):(l.take k++List.replicate (l.length - k) z).set k l[k]=l.take (k+1)++List.replicate (l.length - (k+1)) z:=by
 exact XU
theorem alM (a:Option Addr) (cap:Nat) (l:List Rq) (w:World) (hl:l.length<=1048576) (ha:fJ w a l):
 Calls prog 106 #[.slice a l.length cap] w λe w'=>e= .returned (.slice (some ⟨w.heap.size,0,none⟩) l.length l.length)/\pY w' w.heap.size l/\aG w w':=by
 have hmk:=afD l.length Aaa;have HA:=Hq ha;clear ha;go_in
 go_wp2_with fail;go_loopw [4] (λi wr=>∃k:Nat,k<=l.length/\i= .int .i64 k/\pY wr w.heap.size (l.take k++List.replicate (l.length - k) ⟨0,ByteArray.empty,0,0⟩)/\aG w wr) (λi _=>l.length - (intOf i).toNat)
 case atStart=>exact⟨0,aEN _,rfl,by unfold pY GR.Blk;rw [aGb,aFN,Nat.sub_zero];exact aEu w _,aV w _⟩
 case round=>
  open ao6 in exact IJ
theorem azt (p:Rq) (left:Int) (w:World) (h0:0<=left) (h1:left<=1048576) (hk:p.k.size<=maxLen):Calls prog 130 #[aaF p,.int .i64 left] w λe w'=>e= .returned (.int .i64 (if (p.k.size:Int)<=left then left - p.k.size else -1))/\aG w w':=by
 obtain⟨pno,pk,pn,ps⟩:=p;dsimp only at hk ⊢;unfold maxLen at hk;by_cases hc:(pk.size:Int)<=left
 .rw [aER hc];have hn:¬(left - (pk.size:Int) < 0):=Aaa
  go_in
  exact XW
 .rw [aEG hc];have hn:left - (pk.size:Int) < 0:=Aaa
  go_in
  exact XW
theorem akC (a b:Option Addr) (ca cb:Nat) (l:List Rq) (w:World) (hl:l.length<=1048600) (ha:fJ w a l) (hb:fJ w b l):
 Calls prog 124 #[.slice a l.length ca,.slice b l.length cb] w (dK w (.bool true)):=by
 have HA:=Hq ha;have HB:=Hq hb;clear ha hb;go_in
 go_wp2_with fail;go_loopw [5] (λi wr=>∃k:Nat,k<=l.length/\i= .int .i64 k/\aG w wr) (λi _=>l.length - (intOf i).toNat)
 case atStart=>exact vQ
 case round=>
  obtain⟨k,hk,rfl,hbel⟩:=hrel;have aO:=Hq hbel;clear hbel;by_cases hlt:k < l.length
  .obtain⟨g1,o1,rfl,hg1,s0,s1,s2,s3⟩:=fJ.four (GR.At.below HA aO) k hlt;obtain⟨g2,o2,rfl,hg2,t0,t1,t2,t3⟩:=fJ.four (GR.At.below HB aO) k hlt;generalize l[k]=pu at *;have xS:=Hq (λw1=>axQ pu w1);obtain⟨pno,pk,pn,ps⟩:=pu;dsimp only at s0 s1 s2 s3 t0 t1 t2 t3;go_wp2_with fail
   go_region_held (λw'=>(w'.cell? ⟨g1,o1+k*4,none⟩=some (.int .i64 pno)/\w'.cell? ⟨g1,o1+k*4+1,none⟩=some (.string pk)/\w'.cell? ⟨g1,o1+k*4+2,none⟩=some (.int .i64 pn)/\w'.cell? ⟨g1,o1+k*4+3,none⟩=some (.int .i64 ps))/\w'.cell? ⟨g2,o2+k*4,none⟩=some (.int .i64 pno)/\w'.cell? ⟨g2,o2+k*4+1,none⟩=some (.string pk)/\w'.cell? ⟨g2,o2+k*4+2,none⟩=some (.int .i64 pn)/\w'.cell? ⟨g2,o2+k*4+3,none⟩=some (.int .i64 ps)) (go_keep)
    (first
     |(go_at_call 166;refine(xS _).mono ?_;rintro e w5 ⟨rfl,hb5⟩;have hb6:aG wr w5:=⟨hb5.os,hb5.tape,hb5.output,hb5.size,hb5.block⟩;clear hb5;have eO:=Hq (aO.trans (hb6.mono aO.size));have y0:=(hb6.cell (p:=⟨g1,o1+k*4,none⟩) hg1).trans s0;have y1:=(hb6.cell (p:=⟨g1,o1+k*4+1,none⟩) hg1).trans s1;have y2:=(hb6.cell (p:=⟨g1,o1+k*4+2,none⟩) hg1).trans s2;have y3:=(hb6.cell (p:=⟨g1,o1+k*4+3,none⟩) hg1).trans s3;have z0:=(hb6.cell (p:=⟨g2,o2+k*4,none⟩) hg2).trans t0;have z1:=(hb6.cell (p:=⟨g2,o2+k*4+1,none⟩) hg2).trans t1;have z2:=(hb6.cell (p:=⟨g2,o2+k*4+2,none⟩) hg2).trans t2;have z3:=(hb6.cell (p:=⟨g2,o2+k*4+3,none⟩) hg2).trans t3;clear hb6))
   all_goals
    go_wp2_with fail
    go_roundw
    case rel=>exact⟨k+1,Aaa,Aaf,eO⟩
    case measure=>simp[intOf];omega
  .exact ES
theorem alG (a:Option Addr) (ca:Nat) (l:List Rq) (z0:Int) (w:World) (h0:0<=z0) (h1:z0<=1048576) (hl:l.length<=maxLen) (hks:∀p∈l,p.k.size<=maxLen) (ha:fJ w a l):
 Calls prog 87 #[.slice a l.length ca,.int .i64 z0] w λe w'=>∃r:Int,e= .returned (.int .i64 r)/\aG w w'/\(r= -1\/0<=r/\r<=1048576/\l.length<=1048576/\∀p∈l,p.k.size<=1048576):=by
 have HA:=Hq ha;clear ha;unfold maxLen at hl;by_cases hbig:(l.length:Int)<=z0
 .have hn:¬(z0 - (l.length:Int) < 0):=Aaa
  go_in
  go_wp2_with fail;go_loopw [1,5] (λlf i wr=>∃(k:Nat) (z:Int),k<=l.length/\i= .int .i64 k/\lf= .int .i64 z/\0<=z/\z<=1048576/\(∀p∈l.take k,p.k.size<=1048576)/\aG w wr) (λ_ i _=>l.length - (intOf i).toNat)
  case atStart=>exact LV
  case round=>
   open an5 in exact LQ
 .have hn:z0 - (l.length:Int) < 0:=Aaa
  go_in
  exact Wz
open Go.RowKit Go.Maps
namespace Mth
def cK (l:List Pu) (key:ByteArray) (dm df ds n:Int):List Pu×Bool:=rC l (eT (aD l key) dm df ds n) n
theorem alA {l:List Pu} (hp:l.Pairwise Oz) (p:Pu):∀q∈iQ l p,upd (aD l) p q.k=q:=by
 intro q hq;obtain⟨i,hi,rfl⟩:=aFE.1 hq;have h:=afM hp p;have h2:=congrArg (λx=>x[i]?) h;simp only[List.getElem?_map,aEB hi,Option.map_some,aFR] at h2;exact h2
theorem put_mem {l:List Pu} {p q:Pu} (h:q∈iQ l p):q=p\/q∈l:=by
 exact ahS
theorem J3 {l:List Pu} {key:ByteArray} {n:Int} (h:iZ l=false):cK l key dm df ds n=(l,false):=by
 unfold cK rC;rw [h];rfl
theorem LY {l:List Pu} {key:ByteArray} {n:Int} (h:¬(1<=n/\n<=1000000000)):cK l key dm df ds n=(l,false):=by
 unfold cK rC;rw [aEw h];simp
theorem LW {l:List Pu} {key:ByteArray} {n:Int} (h:iZ l=true) (hn:1<=n/\n<=1000000000):
 cK l key dm df ds n=if gZ (eT (aD l key) dm df ds n)&&decide ((iQ l (eT (aD l key) dm df ds n)).length<=20) then(iQ l (eT (aD l key) dm df ds n),true) else(l,false):=by
 unfold cK rC;rw [adh _ h,h,aEy hn];rfl
theorem Zv {l:List Pu} {key:ByteArray} {n:Int} (h:keyOk key.data.toList=false):gZ (eT (aD l key) dm df ds n)=false:=by
 unfold gZ;have:(eT (aD l key) dm df ds n).k=key:=pW l key;rw [this,h];rfl
theorem yZ {l:List Pu} {key:ByteArray} (h:iZ l=true) (hk:keyOk key.data.toList=true):gZ (aD l key)=true:=by
 obtain⟨h1,_,_⟩:=(jQ l).1 h;unfold aD;cases hf:l.find? (λp=>p.k.toList == key.toList) with
 |none=>simp[gZ,qM,hk]
 |some q=>exact h1 q (List.mem_of_find?_eq_some hf)
theorem tO {d n:Int} (hd:d= -1\/d=0\/d=1) (hn:1<=n/\n<=1000000000): -1000000000<=d*n/\d*n<=1000000000:=by
 rcases hd with rfl|rfl|rfl<;>omega
end Mth
def iN (w:World) (r:List Pu×Bool) (e:Ending) (w':World):Prop:=∃v,e= .returned (.tuple #[v,.bool r.2])/\v≠ .slice none 0 0/\w'.ownsRow w.heap.size 142 4 v r.1.length (GR.flat fO r.1)/\aG w w'
theorem Mth.purseOf_am {l:List Pu} {key:ByteArray} (h:iZ l=true):(0<=(aD l key).m/\(aD l key).m<=1000000000)/\(0<=(aD l key).f/\(aD l key).f<=1000000000)/\(0<=(aD l key).s/\(aD l key).s<=1000000000):=by
 obtain⟨h1,_,_⟩:=(jQ l).1 h;unfold aD;cases hf:l.find? (λp=>p.k.toList == key.toList) with
 |none=>simp
 |some q=>
  have hq:=h1 q (List.mem_of_find?_eq_some hf);unfold gZ at hq;simp only[aED] at hq;exact⟨aEQ hq.1.1.1.2,aEQ hq.1.1.2,aEQ hq.1.2⟩
theorem FZ (b off cap:Nat) (l:List Pu) (key:ByteArray) (dm df ds n:Int) (w:World) (hl:l.length<=1048600) (hcap:l.length<=cap) (hk:∀p∈l,p.k.size<=1048576) (hkey:key.size<=1048576) (hd1:dm= -1\/dm=0\/dm=1) (hd2:df= -1\/df=0\/df=1) (hd3:ds= -1\/ds=0\/ds=1) (ha:aH w (some ⟨b,off,none⟩) l):
 Calls Tryz.prog 137 #[.slice (some ⟨b,off,none⟩) l.length cap,.string key,.int .i64 dm,.int .i64 df,.int .i64 ds,.int .i64 n] w (iN w (cK l key dm df ds n)):=by
 have hkm:∀p∈l,p.k.size<=maxLen:=λp hp=>by have:=hk p hp;unfold maxLen;omega
 have JR:=Hq (wE (some ⟨b,off,none⟩) cap l key w hl ha);have HA:=Hq ha;unfold iN;by_cases hin:iZ l=true/\1<=n/\n<=1000000000
 .obtain⟨hok,hn1,hn2⟩:=hin;obtain⟨⟨m0,m1⟩,⟨f0,f1⟩,s0,s1⟩:=purseOf_am (key:=key) hok;obtain⟨u10,u11⟩:=tO hd1 ⟨hn1,hn2⟩;obtain⟨u20,u21⟩:=tO hd2 ⟨hn1,hn2⟩;obtain⟨u30,u31⟩:=tO hd3 ⟨hn1,hn2⟩;have hpk:=pW l key;have HWI:=Hq (λw1 (hb:aG w w1)=>UH b off cap l (eT (aD l key) dm df ds n) n w1 hcap hkm (by show(aD l key).k.size<=maxLen;rw [hpk];unfold maxLen;omega) (GR.At.below ha hb) hok ⟨hn1,hn2⟩);have hAm:decide (yB n 0 1000000000)=true:=aEy ⟨Aaa,hn2⟩;unfold cK;clear ha hok hk hkm hd1 hd2 hd3;unfold eT at *;generalize aD l key=p at *;obtain⟨pk,pm,pf,ps⟩:=p;dsimp only at *;subst hpk;generalize rC l ⟨pk,pm+dm*n,pf+df*n,ps+ds*n⟩ n=r at *;go_in
  go_wp2_with fail;refine JR.mono ?_;rintro e w1 ⟨rfl,hb1⟩;have HB1:=Hq hb1;clear hb1 JR;go_wp2_with (go_at_call 60;refine(wQ _ _).mono ?_;rintro e w2 ⟨rfl,rfl⟩;rw [hAm])
  refine(HWI _ (HB1.alloc HB1.size _)).mono ?_;rintro e w3 ⟨v,rfl,hv,hown,hb3⟩;have HB3:=Hq ((HB1.alloc HB1.size _).trans (hb3.mono (by have:=HB1.size;simp;omega)));have JO:=Hq (own_lower (b':=w.heap.size) hown (by have:=HB1.size;simp;omega));have HV:=Hq hv;clear hb3 hown hv;go_wp2_with fail;exact aEE (v:= .tuple #[v,.bool r.2]) (by simp[results,Tryz.results137,go_sem]) rfl ⟨v,rfl,HV,JO,HB3⟩
 .have hno:iZ l=false\/¬(1<=n/\n<=1000000000):=by
   cases h:iZ l
   .exact .inl rfl
   .exact .inr (λhn=>hin ⟨h,hn⟩)
  have HAD:=Hq (show cK l key dm df ds n=(l,false) by
   rcases hno with h|h
   .exact J3 h
   .exact LY h)
  have HWN:=Hq (λp w1 (hb:aG w w1)=>QC (some ⟨b,off,none⟩) cap l p n w1 hl hkm (λh=>Abb) (GR.At.below ha hb) hno);rw [ah HAD];clear ha hin hno hk hkm hd1 hd2 hd3 HAD;generalize aD l key=p at *;obtain⟨pk,pm,pf,ps⟩:=p;cases hAm:decide (yB n 0 1000000000)
  all_goals
   go_in
   go_wp2_with fail
   refine JR.mono ?_
   rintro e w1 ⟨rfl,hb1⟩
   have HB1:=Hq hb1
   clear hb1 JR
   go_wp2_with (go_at_call 60;refine(wQ _ _).mono ?_;rintro e w2 ⟨rfl,rfl⟩;rw [hAm])
   refine(HWN ⟨_,_,_,_⟩ _ (HB1.alloc HB1.size _)).mono ?_
   rintro e w3 ⟨v,rfl,hv,hown,hb3⟩
   have HB3:=Hq ((HB1.alloc HB1.size _).trans (hb3.mono (by have:=HB1.size;simp;omega)))
   have JO:=Hq (own_lower (b':=w.heap.size) hown (by have:=HB1.size;simp;omega))
   have HV:=Hq hv
   clear hb3 hown hv
   go_wp2_with fail
   exact aEE (v:= .tuple #[v,.bool false]) (by simp[results,Tryz.results137,go_sem]) rfl ⟨v,rfl,HV,JO,HB3⟩
theorem GJ (hl:l.length<=1048600) (hcap:l.length<=cap) (hk:∀p∈l,p.k.size<=1048576) (hkey:key.size<=1048576) (ha:aH w (some ⟨b,off,none⟩) l):
 Calls Tryz.prog 97 #[.slice (some ⟨b,off,none⟩) l.length cap,.string key,.int .i64 n] w (iN w (cK l key (1) (1) (0) n)):=by
 have H:=Hq (FZ b off cap l key (1) (1) (0) n w hl hcap hk hkey Aaa Aaa Aaa ha);clear ha hk;generalize cK l key (1) (1) (0) n=r at *;unfold iN at *;go_in
 open aqs in exact aa4
theorem adA (hl:l.length<=1048600) (hcap:l.length<=cap) (hk:∀p∈l,p.k.size<=1048576) (hkey:key.size<=1048576) (ha:aH w (some ⟨b,off,none⟩) l):
 Calls Tryz.prog 169 #[.slice (some ⟨b,off,none⟩) l.length cap,.string key,.int .i64 n] w (iN w (cK l key (0) (1) (0) n)):=by
 have H:=Hq (FZ b off cap l key (0) (1) (0) n w hl hcap hk hkey Aaa Aaa Aaa ha);clear ha hk;generalize cK l key (0) (1) (0) n=r at *;unfold iN at *;go_in
 open aqr in exact aa4
theorem adD (hl:l.length<=1048600) (hcap:l.length<=cap) (hk:∀p∈l,p.k.size<=1048576) (hkey:key.size<=1048576) (ha:aH w (some ⟨b,off,none⟩) l):
 Calls Tryz.prog 144 #[.slice (some ⟨b,off,none⟩) l.length cap,.string key,.int .i64 n] w (iN w (cK l key (0) (-1) (0) n)):=by
 have H:=Hq (FZ b off cap l key (0) (-1) (0) n w hl hcap hk hkey Aaa Aaa Aaa ha);clear ha hk;generalize cK l key (0) (-1) (0) n=r at *;unfold iN at *;go_in
 open aqp in exact aa4
theorem ZC (hl:l.length<=1048600) (hcap:l.length<=cap) (hk:∀p∈l,p.k.size<=1048576) (hkey:key.size<=1048576) (ha:aH w (some ⟨b,off,none⟩) l):
 Calls Tryz.prog 139 #[.slice (some ⟨b,off,none⟩) l.length cap,.string key,.int .i64 n] w (iN w (cK l key (0) (-1) (1) n)):=by
 have H:=Hq (FZ b off cap l key (0) (-1) (1) n w hl hcap hk hkey Aaa Aaa Aaa ha);clear ha hk;generalize cK l key (0) (-1) (1) n=r at *;unfold iN at *;go_in
 open aqo in exact aa4
theorem R5 (hl:l.length<=1048600) (hcap:l.length<=cap) (hk:∀p∈l,p.k.size<=1048576) (hkey:key.size<=1048576) (ha:aH w (some ⟨b,off,none⟩) l):
 Calls Tryz.prog 140 #[.slice (some ⟨b,off,none⟩) l.length cap,.string key,.int .i64 n] w (iN w (cK l key (0) (1) (-1) n)):=by
 have H:=Hq (FZ b off cap l key (0) (1) (-1) n w hl hcap hk hkey Aaa Aaa Aaa ha);clear ha hk;generalize cK l key (0) (1) (-1) n=r at *;unfold iN at *;go_in
 open aqn in exact aa4
end Go.Proofs.YtfachhcijcjbpaaGreatDoor
