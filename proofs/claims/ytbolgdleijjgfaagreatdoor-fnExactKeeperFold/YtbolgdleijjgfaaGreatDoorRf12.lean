/- Parts. -/
import Derived.Test.YtbolgdleijjgfaaGreatDoorRf5
import Derived.Test.YtbolgdleijjgfaaGreatDoorRf8
namespace Go.Proofs.YtbolgdleijjgfaaGreatDoor
open Go.Proofs.Tryz
set_option maxHeartbeats 2000000
set_option maxRecDepth 100000
open Go.RowKit
open Mth
variable (a:Option Addr) {w w':World} {g:Nat} {l:List Int}
abbrev bH (w:World) (a:Option Addr) (l:List Int):Prop:=GR.At bg 1 w a l
theorem bH.one {a:Option Addr} (h:bH w a l) (i:Nat) (hi:i < l.length):∃g off,a=some ⟨g,off,none⟩/\g < w.heap.size/\w.cell? ⟨g,off+i,none⟩=some (.int .i64 l[i]):=by
 obtain⟨g,off,e,hg,hc⟩:=h i hi;refine⟨g,off,e,hg,?_⟩;simpa using hc 0 Aaa
abbrev mJ (w:World) (g:Nat) (l:List Int):Prop:=GR.Blk bg 3 w g l
theorem mJ.one (h:mJ w g l) (i:Nat) (hi:i < l.length):w.cell? ⟨g,i,none⟩=some (.int .i64 l[i]):=by
 simpa using GR.Blk.cell h aX i hi 0 Aaa
theorem mJ.step (h:mJ w g l) (hb:aH w w'):mJ w' g l:=by
 have hl:=GR.Blk.lt h;unfold mJ GR.Blk at *;rw [hb.block g hl];exact h
theorem xL:(prog.info? 3).map (λi=>(i.zero,i.size,i.bytes))=some (some (.int .i64 0),1,8):=Aab
theorem acK (n:Nat) (hn:n<=2000000):∀W:World,(Instr.makeSlice 22 (.int .i64 (n:Int)) (.int .i64 (n:Int))).run prog W= .ok (.slice (some ⟨W.heap.size,0,none⟩) n n) (W.alloc (.cells (GR.flat bg (List.replicate n 0)).toArray 3)):=by
 obtain⟨i0,hi,hz0,hz1,hz2⟩:=aFt xL;intro W;have h:=run_make (P:=prog) W 22 3 i0 (.int .i64 0) underlying22 hi hz0 .i64 .i64 (n:Int) (n:Int) Aaa Aaa Abc Aaa;rw [hz1] at h;have e:=GR.made_flat bg 1 aX Aaa 0 (Value.cells (.int .i64 0)) rfl n;exact Tn
theorem ZL (l:List Int) (z:Int) (k:Nat) (hk:k < l.length):(l.take k++List.replicate (l.length - k) z).set k l[k]=l.take (k+1)++List.replicate (l.length - (k+1)) z:=by
 exact abj
theorem adG (cap:Nat) (l:List Int) (w:World) (hl:l.length<=1048576) (ha:bH w a l):
 Calls prog 51 #[.slice a l.length cap] w λe w'=>e= .returned (.slice (some ⟨w.heap.size,0,none⟩) l.length l.length)/\mJ w' w.heap.size l/\aH w w':=by
 have hmk:=acK l.length Aaa;have HA:=Hq ha;clear ha;go_in
 go_wp2_with fail;go_loopw [4] (λi wr=>∃k:Nat,k<=l.length/\i= .int .i64 k/\mJ wr w.heap.size (l.take k++List.replicate (l.length - k) 0)/\aH w wr) (λi _=>l.length - (intOf i).toNat)
 case atStart=>exact⟨0,aE7 _,rfl,by unfold mJ GR.Blk;rw [aGG,aF5,Nat.sub_zero];exact aEP w _,dS w _⟩
 case round=>
  open ap9 in exact Tf
theorem aby (a b:Option Addr) (ca cb:Nat) (l:List Int) (w:World) (hl:l.length<=1048600) (ha:bH w a l) (hb:bH w b l):
 Calls prog 65 #[.slice a l.length ca,.slice b l.length cb] w (dU w (.bool true)):=by
 have HA:=Hq ha;have HB:=Hq hb;clear ha hb;go_in
 go_wp2_with fail;go_loopw [5] (λi wr=>∃k:Nat,k<=l.length/\i= .int .i64 k/\aH w wr) (λi _=>l.length - (intOf i).toNat)
 case atStart=>exact BZ
 case round=>
  obtain⟨k,hk,rfl,hbel⟩:=hrel;have aZ:=Hq hbel;clear hbel;by_cases hlt:k < l.length
  .obtain⟨g1,o1,rfl,hg1,s0⟩:=bH.one (GR.At.below HA aZ) k hlt;obtain⟨g2,o2,rfl,hg2,t0⟩:=bH.one (GR.At.below HB aZ) k hlt;generalize l[k]=pu at *;go_wp2_with fail;go_quiet (fail);go_wp2_with fail;go_roundw
   case rel=>exact⟨k+1,Aaa,Aaf,aZ.trans ⟨rfl,rfl,rfl,aER _,λ_ _=>rfl⟩⟩
   case measure=>simp[intOf];omega
  .exact Tj
theorem adC (ca:Nat) (l:List Int) (z0:Int) (w:World) (h0:0<=z0) (h1:z0<=1048576) (hl:l.length<=maxLen):
 Calls prog 39 #[.slice a l.length ca,.int .i64 z0] w λe w'=>e= .returned (.int .i64 (if (l.length:Int)<=z0 then z0 - l.length else -1))/\w=w':=by
 unfold maxLen at hl;by_cases hc:(l.length:Int)<=z0
 .rw [aFc hc];have hn:¬(z0 - (l.length:Int) < 0):=Aaa
  go_in
  exact O3
 .rw [aE2 hc];have hn:z0 - (l.length:Int) < 0:=Aaa
  go_in
  exact O3
abbrev SentAt (w:World) (a:Option Addr) (l:List jI):Prop:=GR.At aM 4 w a l
abbrev EZ (p:jI):Value:= .agg (gN p.i p.t p.k p.n)
theorem SentAt.four {a:Option Addr} {l:List jI} (h:SentAt w a l) (i:Nat) (hi:i < l.length):∃g off,a=some ⟨g,off,none⟩/\g < w.heap.size/\w.cell? ⟨g,off+i*4,none⟩=some (.int .i64 l[i].i)/\w.cell? ⟨g,off+i*4+1,none⟩=some (.int .i64 l[i].t)/\w.cell? ⟨g,off+i*4+2,none⟩=some (.string l[i].k)/\w.cell? ⟨g,off+i*4+3,none⟩=some (.int .i64 l[i].n):=by
 exact aiu
abbrev mE (w:World) (g:Nat) (l:List jI):Prop:=GR.Blk aM 145 w g l
theorem mE.four {l:List jI} (h:mE w g l) (i:Nat) (hi:i < l.length):w.cell? ⟨g,i*4,none⟩=some (.int .i64 l[i].i)/\w.cell? ⟨g,i*4+1,none⟩=some (.int .i64 l[i].t)/\w.cell? ⟨g,i*4+2,none⟩=some (.string l[i].k)/\w.cell? ⟨g,i*4+3,none⟩=some (.int .i64 l[i].n):=
 ⟨by simpa using GR.Blk.cell h aT i hi 0 Aaa,by simpa using GR.Blk.cell h aT i hi 1 Aaa,by simpa using GR.Blk.cell h aT i hi 2 Aaa,by simpa using GR.Blk.cell h aT i hi 3 Aaa⟩
theorem mE.step {l:List jI} (h:mE w g l) (hb:aH w w'):mE w' g l:=by
 have hl:=GR.Blk.lt h;unfold mE GR.Blk at *;rw [hb.block g hl];exact h
theorem F5:(prog.info? 145).map (λi=>(i.zero,i.size,i.bytes))=some (some (.agg (gN 0 0 ByteArray.empty 0)),4,40):=Aab
theorem acN (n:Nat) (hn:n<=2000000):∀W:World,(Instr.makeSlice 35 (.int .i64 (n:Int)) (.int .i64 (n:Int))).run prog W= .ok (.slice (some ⟨W.heap.size,0,none⟩) n n) (W.alloc (.cells (GR.flat aM (List.replicate n ⟨0,0,ByteArray.empty,0⟩)).toArray 145)):=by
 obtain⟨i0,hi,hz0,hz1,hz2⟩:=aFt F5;intro W;have h:=run_make (P:=prog) W 35 145 i0 (.agg (gN 0 0 ByteArray.empty 0)) underlying35 hi hz0 .i64 .i64 (n:Int) (n:Int) Aaa Aaa Abc Aaa;rw [hz1] at h;have e:=GR.made_flat aM 4 aT Aaa ⟨0,0,ByteArray.empty,0⟩ (Value.cells (.agg (gN 0 0 ByteArray.empty 0))) rfl n;exact Tn
theorem alr (p:jI) (w:World):Calls prog 101 #[EZ p] w (dU w (EZ p)):=by
 obtain⟨pi,pt,pk,pn⟩:=p;go_in
 go_wp2_with fail;refine aEY (v:= .agg (gN pi pt pk pn)) (by simp[results,results101,go_sem]) rfl ⟨rfl,?_⟩;exact Wi
theorem aku (p:jI) (w:World):Calls prog 118 #[EZ p,EZ p] w (dU w (.bool true)):=by
 obtain⟨pi,pt,pk,pn⟩:=p;go_in
 exact aeH
theorem NK (l:List jI) (z:jI) (k:Nat) (hk:k < l.length):(l.take k++List.replicate (l.length - k) z).set k l[k]=l.take (k+1)++List.replicate (l.length - (k+1)) z:=by
 exact abj
theorem afT (cap:Nat) (l:List jI) (w:World) (hl:l.length<=1048576) (ha:SentAt w a l):
 Calls prog 53 #[.slice a l.length cap] w λe w'=>e= .returned (.slice (some ⟨w.heap.size,0,none⟩) l.length l.length)/\mE w' w.heap.size l/\aH w w':=by
 have hmk:=acN l.length Aaa;have HA:=Hq ha;clear ha;go_in
 go_wp2_with fail;go_loopw [4] (λi wr=>∃k:Nat,k<=l.length/\i= .int .i64 k/\mE wr w.heap.size (l.take k++List.replicate (l.length - k) ⟨0,0,ByteArray.empty,0⟩)/\aH w wr) (λi _=>l.length - (intOf i).toNat)
 case atStart=>exact⟨0,aE7 _,rfl,by unfold mE GR.Blk;rw [aGG,aF5,Nat.sub_zero];exact aEP w _,dS w _⟩
 case round=>
  open aqa in exact Tf
theorem alm (p:jI) (left:Int) (w:World) (h0:0<=left) (h1:left<=1048576) (hk:p.k.size<=maxLen):Calls prog 83 #[EZ p,.int .i64 left] w λe w'=>e= .returned (.int .i64 (if (p.k.size:Int)<=left then left - p.k.size else -1))/\aH w w':=by
 obtain⟨pi,pt,pk,pn⟩:=p;dsimp only at hk ⊢;unfold maxLen at hk;by_cases hc:(pk.size:Int)<=left
 .rw [aFc hc];have hn:¬(left - (pk.size:Int) < 0):=Aaa
  go_in
  exact XZ
 .rw [aE2 hc];have hn:left - (pk.size:Int) < 0:=Aaa
  go_in
  exact XZ
theorem aeZ (a b:Option Addr) (ca cb:Nat) (l:List jI) (w:World) (hl:l.length<=1048600) (ha:SentAt w a l) (hb:SentAt w b l):
 Calls prog 67 #[.slice a l.length ca,.slice b l.length cb] w (dU w (.bool true)):=by
 have HA:=Hq ha;have HB:=Hq hb;clear ha hb;go_in
 go_wp2_with fail;go_loopw [5] (λi wr=>∃k:Nat,k<=l.length/\i= .int .i64 k/\aH w wr) (λi _=>l.length - (intOf i).toNat)
 case atStart=>exact BZ
 case round=>
  obtain⟨k,hk,rfl,hbel⟩:=hrel;have aZ:=Hq hbel;clear hbel;by_cases hlt:k < l.length
  .obtain⟨g1,o1,rfl,hg1,s0,s1,s2,s3⟩:=SentAt.four (GR.At.below HA aZ) k hlt;obtain⟨g2,o2,rfl,hg2,t0,t1,t2,t3⟩:=SentAt.four (GR.At.below HB aZ) k hlt;generalize l[k]=pu at *;have Sv:=Hq (λw1=>aku pu w1);obtain⟨pi,pt,pk,pn⟩:=pu;dsimp only at s0 s1 s2 s3 t0 t1 t2 t3;go_wp2_with fail
   go_region_held (λw'=>(w'.cell? ⟨g1,o1+k*4,none⟩=some (.int .i64 pi)/\w'.cell? ⟨g1,o1+k*4+1,none⟩=some (.int .i64 pt)/\w'.cell? ⟨g1,o1+k*4+2,none⟩=some (.string pk)/\w'.cell? ⟨g1,o1+k*4+3,none⟩=some (.int .i64 pn))/\w'.cell? ⟨g2,o2+k*4,none⟩=some (.int .i64 pi)/\w'.cell? ⟨g2,o2+k*4+1,none⟩=some (.int .i64 pt)/\w'.cell? ⟨g2,o2+k*4+2,none⟩=some (.string pk)/\w'.cell? ⟨g2,o2+k*4+3,none⟩=some (.int .i64 pn)) (go_keep)
    (first
     |(go_at_call 118;refine(Sv _).mono ?_;rintro e w5 ⟨rfl,hb5⟩;have hb6:aH wr w5:=⟨hb5.os,hb5.tape,hb5.output,hb5.size,hb5.block⟩;clear hb5;have fO:=Hq (aZ.trans (hb6.mono aZ.size));have y0:=(hb6.cell (p:=⟨g1,o1+k*4,none⟩) hg1).trans s0;have y1:=(hb6.cell (p:=⟨g1,o1+k*4+1,none⟩) hg1).trans s1;have y2:=(hb6.cell (p:=⟨g1,o1+k*4+2,none⟩) hg1).trans s2;have y3:=(hb6.cell (p:=⟨g1,o1+k*4+3,none⟩) hg1).trans s3;have z0:=(hb6.cell (p:=⟨g2,o2+k*4,none⟩) hg2).trans t0;have z1:=(hb6.cell (p:=⟨g2,o2+k*4+1,none⟩) hg2).trans t1;have z2:=(hb6.cell (p:=⟨g2,o2+k*4+2,none⟩) hg2).trans t2;have z3:=(hb6.cell (p:=⟨g2,o2+k*4+3,none⟩) hg2).trans t3;clear hb6))
   all_goals
    go_wp2_with fail
    go_roundw
    case rel=>exact⟨k+1,Aaa,Aaf,fO⟩
    case measure=>simp[intOf];omega
  .exact Tj
theorem afQ (ca:Nat) (l:List jI) (z0:Int) (w:World) (h0:0<=z0) (h1:z0<=1048576) (hl:l.length<=maxLen) (hks:∀p∈l,p.k.size<=maxLen) (ha:SentAt w a l):
 Calls prog 41 #[.slice a l.length ca,.int .i64 z0] w λe w'=>∃r:Int,e= .returned (.int .i64 r)/\aH w w'/\(r= -1\/0<=r/\r<=1048576/\l.length<=1048576/\∀p∈l,p.k.size<=1048576):=by
 have HA:=Hq ha;clear ha;unfold maxLen at hl;by_cases hbig:(l.length:Int)<=z0
 .have hn:¬(z0 - (l.length:Int) < 0):=Aaa
  go_in
  go_wp2_with fail;go_loopw [1,5] (λlf i wr=>∃(k:Nat) (z:Int),k<=l.length/\i= .int .i64 k/\lf= .int .i64 z/\0<=z/\z<=1048576/\(∀p∈l.take k,p.k.size<=1048576)/\aH w wr) (λ_ i _=>l.length - (intOf i).toNat)
  case atStart=>exact XY
  case round=>
   open arb in exact XT
 .have hn:z0 - (l.length:Int) < 0:=Aaa
  go_in
  exact Wm
abbrev gB (w:World) (a:Option Addr) (l:List Rq):Prop:=GR.At aL 4 w a l
abbrev aay (p:Rq):Value:= .agg (gY p.no p.k p.n p.s)
theorem gB.four {a:Option Addr} {l:List Rq} (h:gB w a l) (i:Nat) (hi:i < l.length):∃g off,a=some ⟨g,off,none⟩/\g < w.heap.size/\w.cell? ⟨g,off+i*4,none⟩=some (.int .i64 l[i].no)/\w.cell? ⟨g,off+i*4+1,none⟩=some (.string l[i].k)/\w.cell? ⟨g,off+i*4+2,none⟩=some (.int .i64 l[i].n)/\w.cell? ⟨g,off+i*4+3,none⟩=some (.int .i64 l[i].s):=by
 exact aiu
abbrev qJ (w:World) (g:Nat) (l:List Rq):Prop:=GR.Blk aL 148 w g l
theorem qJ.four {l:List Rq} (h:qJ w g l) (i:Nat) (hi:i < l.length):w.cell? ⟨g,i*4,none⟩=some (.int .i64 l[i].no)/\w.cell? ⟨g,i*4+1,none⟩=some (.string l[i].k)/\w.cell? ⟨g,i*4+2,none⟩=some (.int .i64 l[i].n)/\w.cell? ⟨g,i*4+3,none⟩=some (.int .i64 l[i].s):=
 ⟨by simpa using GR.Blk.cell h aW i hi 0 Aaa,by simpa using GR.Blk.cell h aW i hi 1 Aaa,by simpa using GR.Blk.cell h aW i hi 2 Aaa,by simpa using GR.Blk.cell h aW i hi 3 Aaa⟩
theorem qJ.step {l:List Rq} (h:qJ w g l) (hb:aH w w'):qJ w' g l:=by
 have hl:=GR.Blk.lt h;unfold qJ GR.Blk at *;rw [hb.block g hl];exact h
theorem AO:(prog.info? 148).map (λi=>(i.zero,i.size,i.bytes))=some (some (.agg (gY 0 ByteArray.empty 0 0)),4,40):=Aab
theorem afr (n:Nat) (hn:n<=2000000):∀W:World,(Instr.makeSlice 37 (.int .i64 (n:Int)) (.int .i64 (n:Int))).run prog W= .ok (.slice (some ⟨W.heap.size,0,none⟩) n n) (W.alloc (.cells (GR.flat aL (List.replicate n ⟨0,ByteArray.empty,0,0⟩)).toArray 148)):=by
 obtain⟨i0,hi,hz0,hz1,hz2⟩:=aFt AO;intro W;have h:=run_make (P:=prog) W 37 148 i0 (.agg (gY 0 ByteArray.empty 0 0)) underlying37 hi hz0 .i64 .i64 (n:Int) (n:Int) Aaa Aaa Abc Aaa;rw [hz1] at h;have e:=GR.made_flat aL 4 aW Aaa ⟨0,ByteArray.empty,0,0⟩ (Value.cells (.agg (gY 0 ByteArray.empty 0 0))) rfl n;exact Tn
theorem azR (p:Rq) (w:World):Calls prog 103 #[aay p] w (dU w (aay p)):=by
 obtain⟨pno,pk,pn,ps⟩:=p;go_in
 go_wp2_with fail;refine aEY (v:= .agg (gY pno pk pn ps)) (by simp[results,results103,go_sem]) rfl ⟨rfl,?_⟩;exact Wi
theorem ayi (p:Rq) (w:World):Calls prog 120 #[aay p,aay p] w (dU w (.bool true)):=by
 obtain⟨pno,pk,pn,ps⟩:=p;go_in
 exact aeH
theorem Ry (l:List Rq) (z:Rq) (k:Nat) (hk:k < l.length):(l.take k++List.replicate (l.length - k) z).set k l[k]=l.take (k+1)++List.replicate (l.length - (k+1)) z:=by
 exact abj
theorem alp (cap:Nat) (l:List Rq) (w:World) (hl:l.length<=1048576) (ha:gB w a l):
 Calls prog 55 #[.slice a l.length cap] w λe w'=>e= .returned (.slice (some ⟨w.heap.size,0,none⟩) l.length l.length)/\qJ w' w.heap.size l/\aH w w':=by
 have hmk:=afr l.length Aaa;have HA:=Hq ha;clear ha;go_in
 go_wp2_with fail;go_loopw [4] (λi wr=>∃k:Nat,k<=l.length/\i= .int .i64 k/\qJ wr w.heap.size (l.take k++List.replicate (l.length - k) ⟨0,ByteArray.empty,0,0⟩)/\aH w wr) (λi _=>l.length - (intOf i).toNat)
 case atStart=>exact⟨0,aE7 _,rfl,by unfold qJ GR.Blk;rw [aGG,aF5,Nat.sub_zero];exact aEP w _,dS w _⟩
 case round=>
  open aqb in exact Tf
theorem azQ (p:Rq) (left:Int) (w:World) (h0:0<=left) (h1:left<=1048576) (hk:p.k.size<=maxLen):Calls prog 85 #[aay p,.int .i64 left] w λe w'=>e= .returned (.int .i64 (if (p.k.size:Int)<=left then left - p.k.size else -1))/\aH w w':=by
 obtain⟨pno,pk,pn,ps⟩:=p;dsimp only at hk ⊢;unfold maxLen at hk;by_cases hc:(pk.size:Int)<=left
 .rw [aFc hc];have hn:¬(left - (pk.size:Int) < 0):=Aaa
  go_in
  exact XZ
 .rw [aE2 hc];have hn:left - (pk.size:Int) < 0:=Aaa
  go_in
  exact XZ
theorem aks (a b:Option Addr) (ca cb:Nat) (l:List Rq) (w:World) (hl:l.length<=1048600) (ha:gB w a l) (hb:gB w b l):
 Calls prog 69 #[.slice a l.length ca,.slice b l.length cb] w (dU w (.bool true)):=by
 have HA:=Hq ha;have HB:=Hq hb;clear ha hb;go_in
 go_wp2_with fail;go_loopw [5] (λi wr=>∃k:Nat,k<=l.length/\i= .int .i64 k/\aH w wr) (λi _=>l.length - (intOf i).toNat)
 case atStart=>exact BZ
 case round=>
  obtain⟨k,hk,rfl,hbel⟩:=hrel;have aZ:=Hq hbel;clear hbel;by_cases hlt:k < l.length
  .obtain⟨g1,o1,rfl,hg1,s0,s1,s2,s3⟩:=gB.four (GR.At.below HA aZ) k hlt;obtain⟨g2,o2,rfl,hg2,t0,t1,t2,t3⟩:=gB.four (GR.At.below HB aZ) k hlt;generalize l[k]=pu at *;have Sv:=Hq (λw1=>ayi pu w1);obtain⟨pno,pk,pn,ps⟩:=pu;dsimp only at s0 s1 s2 s3 t0 t1 t2 t3;go_wp2_with fail
   go_region_held (λw'=>(w'.cell? ⟨g1,o1+k*4,none⟩=some (.int .i64 pno)/\w'.cell? ⟨g1,o1+k*4+1,none⟩=some (.string pk)/\w'.cell? ⟨g1,o1+k*4+2,none⟩=some (.int .i64 pn)/\w'.cell? ⟨g1,o1+k*4+3,none⟩=some (.int .i64 ps))/\w'.cell? ⟨g2,o2+k*4,none⟩=some (.int .i64 pno)/\w'.cell? ⟨g2,o2+k*4+1,none⟩=some (.string pk)/\w'.cell? ⟨g2,o2+k*4+2,none⟩=some (.int .i64 pn)/\w'.cell? ⟨g2,o2+k*4+3,none⟩=some (.int .i64 ps)) (go_keep)
    (first
     |(go_at_call 120;refine(Sv _).mono ?_;rintro e w5 ⟨rfl,hb5⟩;have hb6:aH wr w5:=⟨hb5.os,hb5.tape,hb5.output,hb5.size,hb5.block⟩;clear hb5;have fO:=Hq (aZ.trans (hb6.mono aZ.size));have y0:=(hb6.cell (p:=⟨g1,o1+k*4,none⟩) hg1).trans s0;have y1:=(hb6.cell (p:=⟨g1,o1+k*4+1,none⟩) hg1).trans s1;have y2:=(hb6.cell (p:=⟨g1,o1+k*4+2,none⟩) hg1).trans s2;have y3:=(hb6.cell (p:=⟨g1,o1+k*4+3,none⟩) hg1).trans s3;have z0:=(hb6.cell (p:=⟨g2,o2+k*4,none⟩) hg2).trans t0;have z1:=(hb6.cell (p:=⟨g2,o2+k*4+1,none⟩) hg2).trans t1;have z2:=(hb6.cell (p:=⟨g2,o2+k*4+2,none⟩) hg2).trans t2;have z3:=(hb6.cell (p:=⟨g2,o2+k*4+3,none⟩) hg2).trans t3;clear hb6))
   all_goals
    go_wp2_with fail
    go_roundw
    case rel=>exact⟨k+1,Aaa,Aaf,fO⟩
    case measure=>simp[intOf];omega
  .exact Tj
theorem alj (ca:Nat) (l:List Rq) (z0:Int) (w:World) (h0:0<=z0) (h1:z0<=1048576) (hl:l.length<=maxLen) (hks:∀p∈l,p.k.size<=maxLen) (ha:gB w a l):
 Calls prog 43 #[.slice a l.length ca,.int .i64 z0] w λe w'=>∃r:Int,e= .returned (.int .i64 r)/\aH w w'/\(r= -1\/0<=r/\r<=1048576/\l.length<=1048576/\∀p∈l,p.k.size<=1048576):=by
 have HA:=Hq ha;clear ha;unfold maxLen at hl;by_cases hbig:(l.length:Int)<=z0
 .have hn:¬(z0 - (l.length:Int) < 0):=Aaa
  go_in
  go_wp2_with fail;go_loopw [1,5] (λlf i wr=>∃(k:Nat) (z:Int),k<=l.length/\i= .int .i64 k/\lf= .int .i64 z/\0<=z/\z<=1048576/\(∀p∈l.take k,p.k.size<=1048576)/\aH w wr) (λ_ i _=>l.length - (intOf i).toNat)
  case atStart=>exact XY
  case round=>
   open ard in exact XT
 .have hn:z0 - (l.length:Int) < 0:=Aaa
  go_in
  exact Wm
end Go.Proofs.YtbolgdleijjgfaaGreatDoor
