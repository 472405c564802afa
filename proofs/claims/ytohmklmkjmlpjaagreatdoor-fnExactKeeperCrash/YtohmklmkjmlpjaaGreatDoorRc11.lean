/- Parts. -/
import Derived.Test.YtohmklmkjmlpjaaGreatDoorRc9
import Derived.Test.YtohmklmkjmlpjaaGreatDoorRc4
namespace Go.Proofs.YtohmklmkjmlpjaaGreatDoor
open Go.Proofs.Tryz
set_option maxHeartbeats 2000000
open Go.RowKit
open Mth
variable (a:Option Addr) {w w':World} {g k:Nat} {l:List Pu}
theorem dY (w:World) (o:Obj):Below w.heap.size w (w.alloc o):=(aGs _ _).alloc (aGh _) _
theorem FU:(prog.info? 108).map (λi=>(i.zero,i.size,i.bytes))=some (some (.agg (jh ByteArray.empty 0 0 0)),4,40):=Aab
theorem aH.news {x:Addr} (h:aH w (some x) l):∀j u,(GR.flat fD l)[j]?=some u->w.cell? (x.add j)=some u:=by
 intro j u hu
 have hj:j < l.length*4:=by
  have:=(aHe.1 hu).1;rwa [GR.flat_length fD 4 aU] at this
 obtain⟨g,off,e,hg,hc⟩:=h (j / 4) Aaa;have hf:=GR.flat_at fD 4 aU l (j / 4) Aaa (j % 4) Aaa;have ej:j / 4*4+j % 4=j:=Aaa
 rw [ej] at hf;have h2:=hc (j % 4) Aaa;exact aiQ
theorem Fp (l:List Pu):∀u∈GR.flat fD l,u.oneCell'=true:=by
 intro u hu;unfold GR.flat at hu;rw [aHw] at hu;obtain⟨p,_,hp⟩:=hu;simp only[fD,aGF,aHx,or_false] at hp;rcases hp with rfl|rfl|rfl|rfl<;>rfl
set_option maxRecDepth 100000
abbrev tK (w:World) (g:Nat) (l:List Pu):Prop:=GR.Blk fD 108 w g l
theorem tK.four (h:tK w g l) (i:Nat) (hi:i < l.length):w.cell? ⟨g,i*4,none⟩=some (.string l[i].k)/\w.cell? ⟨g,i*4+1,none⟩=some (.int .i64 l[i].m)/\w.cell? ⟨g,i*4+2,none⟩=some (.int .i64 l[i].f)/\w.cell? ⟨g,i*4+3,none⟩=some (.int .i64 l[i].s):=
 ⟨by simpa using GR.Blk.cell h aU i hi 0 Aaa,by simpa using GR.Blk.cell h aU i hi 1 Aaa,by simpa using GR.Blk.cell h aU i hi 2 Aaa,by simpa using GR.Blk.cell h aU i hi 3 Aaa⟩
theorem LY (h:tK w g l) (hb:aI w w'):tK w' g l:=by
 have hl:=GR.Blk.lt h;unfold tK GR.Blk at *;rw [hb.block g hl];exact h
theorem Dh (n:Nat) (hn:n<=2000000):∀W:World,(Instr.makeSlice 35 (.int .i64 (n:Int)) (.int .i64 (n:Int))).run prog W= .ok (.slice (some ⟨W.heap.size,0,none⟩) n n) (W.alloc (.cells (GR.flat fD (List.replicate n ⟨ByteArray.empty,0,0,0⟩)).toArray 108)):=by
 obtain⟨i0,hi,hz0,hz1,hz2⟩:=aGV FU;intro W;have h:=run_make (P:=prog) W 35 108 i0 (.agg (jh ByteArray.empty 0 0 0)) underlying35 hi hz0 .i64 .i64 (n:Int) (n:Int) Aaa Aaa Abe Aaa;rw [hz1] at h;have e:=GR.made_flat fD 4 aU Aaa ⟨ByteArray.empty,0,0,0⟩ (Value.agg (jh ByteArray.empty 0 0 0)).cells rfl n;exact EZ
theorem agb (p:Pu) (w:World):Calls prog 112 #[xW p] w (dZ w (xW p)):=by
 obtain⟨k,m,f,s⟩:=p;go_in
 go_wp2_with fail;refine aGn (v:= .agg (jh k m f s)) (by simp[results,results112,go_sem]) rfl ⟨rfl,?_⟩;exact Wv
theorem afi (p:Pu) (w:World):Calls prog 129 #[xW p,xW p] w (dZ w (.bool true)):=by
 obtain⟨k,m,f,s⟩:=p;go_in
 exact Wu
theorem Dn (l:List Pu) (z:Pu) (k:Nat) (hk:k < l.length):(l.take k++List.replicate (l.length - k) z).set k l[k]=l.take (k+1)++List.replicate (l.length - (k+1)) z:=by
 exact abB
theorem ad5 (cap:Nat) (l:List Pu) (w:World) (hl:l.length<=1048576) (ha:aH w a l):
 Calls prog 60 #[.slice a l.length cap] w λe w'=>e= .returned (.slice (some ⟨w.heap.size,0,none⟩) l.length l.length)/\tK w' w.heap.size l/\aI w w':=by
 have hmk:=Dh l.length Aaa;have HA:=Hq ha;clear ha;go_in
 go_wp2_with fail;go_loopw [4] (λi wr=>∃k:Nat,k<=l.length/\i= .int .i64 k/\tK wr w.heap.size (l.take k++List.replicate (l.length - k) ⟨ByteArray.empty,0,0,0⟩)/\aI w wr) (λi _=>l.length - (intOf i).toNat)
 case atStart=>exact ai5
 case round=>
  open arE in exact Tw
theorem af8 (p:Pu) (left:Int) (w:World) (h0:0<=left) (h1:left<=1048576) (hk:p.k.size<=maxLen):Calls prog 95 #[xW p,.int .i64 left] w λe w'=>e= .returned (.int .i64 (if (p.k.size:Int)<=left then left - p.k.size else -1))/\aI w w':=by
 obtain⟨k,m,f,s⟩:=p;dsimp only at hk ⊢;unfold maxLen at hk;by_cases hc:(k.size:Int)<=left
 .rw [aGC hc];have hn:¬(left - (k.size:Int) < 0):=Aaa
  go_in
  exact XY
 .rw [aGr hc];have hn:left - (k.size:Int) < 0:=Aaa
  go_in
  exact XY
theorem abU (a b:Option Addr) (ca cb:Nat) (l:List Pu) (w:World) (hl:l.length<=1048600) (ha:aH w a l) (hb:aH w b l):
 Calls prog 74 #[.slice a l.length ca,.slice b l.length cb] w (dZ w (.bool true)):=by
 have HA:=Hq ha;have HB:=Hq hb;clear ha hb;go_in
 go_wp2_with fail;go_loopw [5] (λi wr=>∃k:Nat,k<=l.length/\i= .int .i64 k/\aI w wr) (λi _=>l.length - (intOf i).toNat)
 case atStart=>exact BM
 case round=>
  obtain⟨k,hk,rfl,hbel⟩:=hrel;have dS:=Hq hbel;clear hbel;by_cases hlt:k < l.length
  .obtain⟨g1,o1,rfl,hg1,s0,s1,s2,s3⟩:=aH.four (GR.At.below HA dS) k hlt;obtain⟨g2,o2,rfl,hg2,t0,t1,t2,t3⟩:=aH.four (GR.At.below HB dS) k hlt;generalize l[k]=pu at *;have SG:=Hq (λw1=>afi pu w1);obtain⟨pk,pm,pf,ps⟩:=pu;dsimp only at s0 s1 s2 s3 t0 t1 t2 t3;go_wp2_with fail
   go_region_held (λw'=>(w'.cell? ⟨g1,o1+k*4,none⟩=some (.string pk)/\w'.cell? ⟨g1,o1+k*4+1,none⟩=some (.int .i64 pm)/\w'.cell? ⟨g1,o1+k*4+2,none⟩=some (.int .i64 pf)/\w'.cell? ⟨g1,o1+k*4+3,none⟩=some (.int .i64 ps))/\w'.cell? ⟨g2,o2+k*4,none⟩=some (.string pk)/\w'.cell? ⟨g2,o2+k*4+1,none⟩=some (.int .i64 pm)/\w'.cell? ⟨g2,o2+k*4+2,none⟩=some (.int .i64 pf)/\w'.cell? ⟨g2,o2+k*4+3,none⟩=some (.int .i64 ps)) (go_keep)
    (first
     |(go_at_call 129;refine(SG _).mono ?_;rintro e w5 ⟨rfl,hb5⟩;have hb6:aI wr w5:=⟨hb5.os,hb5.tape,hb5.output,hb5.size,hb5.block⟩;clear hb5;have fZ:=Hq (dS.trans (hb6.mono dS.size));have y0:=(hb6.cell (p:=⟨g1,o1+k*4,none⟩) hg1).trans s0;have y1:=(hb6.cell (p:=⟨g1,o1+k*4+1,none⟩) hg1).trans s1;have y2:=(hb6.cell (p:=⟨g1,o1+k*4+2,none⟩) hg1).trans s2;have y3:=(hb6.cell (p:=⟨g1,o1+k*4+3,none⟩) hg1).trans s3;have z0:=(hb6.cell (p:=⟨g2,o2+k*4,none⟩) hg2).trans t0;have z1:=(hb6.cell (p:=⟨g2,o2+k*4+1,none⟩) hg2).trans t1;have z2:=(hb6.cell (p:=⟨g2,o2+k*4+2,none⟩) hg2).trans t2;have z3:=(hb6.cell (p:=⟨g2,o2+k*4+3,none⟩) hg2).trans t3;clear hb6))
   all_goals
    go_wp2_with fail
    go_roundw
    case rel=>exact⟨k+1,Aaa,Aaf,fZ⟩
    case measure=>simp[intOf];omega
  .exact TB
theorem ZI (ca:Nat) (l:List Pu) (z0:Int) (w:World) (h0:0<=z0) (h1:z0<=1048576) (hl:l.length<=maxLen) (hks:∀p∈l,p.k.size<=maxLen) (ha:aH w a l):
 Calls prog 40 #[.slice a l.length ca,.int .i64 z0] w λe w'=>∃r:Int,e= .returned (.int .i64 r)/\aI w w'/\(r= -1\/0<=r/\r<=1048576/\l.length<=1048576/\∀p∈l,p.k.size<=1048576):=by
 have HA:=Hq ha;clear ha;unfold maxLen at hl;by_cases hbig:(l.length:Int)<=z0
 .have hn:¬(z0 - (l.length:Int) < 0):=Aaa
  go_in
  go_wp2_with fail;go_loopw [1,5] (λlf i wr=>∃(k:Nat) (z:Int),k<=l.length/\i= .int .i64 k/\lf= .int .i64 z/\0<=z/\z<=1048576/\(∀p∈l.take k,p.k.size<=1048576)/\aI w wr) (λ_ i _=>l.length - (intOf i).toNat)
  case atStart=>exact XW
  case round=>
   open asG in exact JV
 .have hn:z0 - (l.length:Int) < 0:=Aaa
  go_in
  exact Wz
abbrev dH (w:World) (a:Option Addr) (l:List Int):Prop:=GR.At aS 1 w a l
theorem dH.one {a:Option Addr} {l:List Int} (h:dH w a l) (i:Nat) (hi:i < l.length):∃g off,a=some ⟨g,off,none⟩/\g < w.heap.size/\w.cell? ⟨g,off+i,none⟩=some (.int .i64 l[i]):=by
 obtain⟨g,off,e,hg,hc⟩:=h i hi;refine⟨g,off,e,hg,?_⟩;simpa using hc 0 Aaa
abbrev mH (w:World) (g:Nat) (l:List Int):Prop:=GR.Blk aS 3 w g l
theorem mH.one {l:List Int} (h:mH w g l) (i:Nat) (hi:i < l.length):w.cell? ⟨g,i,none⟩=some (.int .i64 l[i]):=by
 simpa using GR.Blk.cell h aO i hi 0 Aaa
theorem mH.step {l:List Int} (h:mH w g l) (hb:aI w w'):mH w' g l:=by
 have hl:=GR.Blk.lt h;unfold mH GR.Blk at *;rw [hb.block g hl];exact h
theorem xB:(prog.info? 3).map (λi=>(i.zero,i.size,i.bytes))=some (some (.int .i64 0),1,8):=Aab
theorem ada (n:Nat) (hn:n<=2000000):∀W:World,(Instr.makeSlice 22 (.int .i64 (n:Int)) (.int .i64 (n:Int))).run prog W= .ok (.slice (some ⟨W.heap.size,0,none⟩) n n) (W.alloc (.cells (GR.flat aS (List.replicate n 0)).toArray 3)):=by
 obtain⟨i0,hi,hz0,hz1,hz2⟩:=aGV xB;intro W;have h:=run_make (P:=prog) W 22 3 i0 (.int .i64 0) underlying22 hi hz0 .i64 .i64 (n:Int) (n:Int) Aaa Aaa Abe Aaa;rw [hz1] at h;have e:=GR.made_flat aS 1 aO Aaa 0 (Value.cells (.int .i64 0)) rfl n;exact EZ
theorem ZJ (l:List Int) (z:Int) (k:Nat) (hk:k < l.length):(l.take k++List.replicate (l.length - k) z).set k l[k]=l.take (k+1)++List.replicate (l.length - (k+1)) z:=by
 exact abB
theorem ad3 (cap:Nat) (l:List Int) (w:World) (hl:l.length<=1048576) (ha:dH w a l):
 Calls prog 59 #[.slice a l.length cap] w λe w'=>e= .returned (.slice (some ⟨w.heap.size,0,none⟩) l.length l.length)/\mH w' w.heap.size l/\aI w w':=by
 have hmk:=ada l.length Aaa;have HA:=Hq ha;clear ha;go_in
 go_wp2_with fail;go_loopw [4] (λi wr=>∃k:Nat,k<=l.length/\i= .int .i64 k/\mH wr w.heap.size (l.take k++List.replicate (l.length - k) 0)/\aI w wr) (λi _=>l.length - (intOf i).toNat)
 case atStart=>exact⟨0,aGB _,rfl,by unfold mH GR.Blk;rw [aIf,aHI,Nat.sub_zero];exact aGg w _,dY w _⟩
 case round=>
  open arF in exact Tw
theorem abR (a b:Option Addr) (ca cb:Nat) (l:List Int) (w:World) (hl:l.length<=1048600) (ha:dH w a l) (hb:dH w b l):
 Calls prog 73 #[.slice a l.length ca,.slice b l.length cb] w (dZ w (.bool true)):=by
 have HA:=Hq ha;have HB:=Hq hb;clear ha hb;go_in
 go_wp2_with fail;go_loopw [5] (λi wr=>∃k:Nat,k<=l.length/\i= .int .i64 k/\aI w wr) (λi _=>l.length - (intOf i).toNat)
 case atStart=>exact BM
 case round=>
  obtain⟨k,hk,rfl,hbel⟩:=hrel;have dS:=Hq hbel;clear hbel;by_cases hlt:k < l.length
  .obtain⟨g1,o1,rfl,hg1,s0⟩:=dH.one (GR.At.below HA dS) k hlt;obtain⟨g2,o2,rfl,hg2,t0⟩:=dH.one (GR.At.below HB dS) k hlt;generalize l[k]=pu at *;go_wp2_with fail;go_quiet (fail);go_wp2_with fail;go_roundw
   case rel=>exact⟨k+1,Aaa,Aaf,dS.trans ⟨rfl,rfl,rfl,aGh _,λ_ _=>rfl⟩⟩
   case measure=>simp[intOf];omega
  .exact TB
theorem adX (ca:Nat) (l:List Int) (z0:Int) (w:World) (h0:0<=z0) (h1:z0<=1048576) (hl:l.length<=maxLen):
 Calls prog 39 #[.slice a l.length ca,.int .i64 z0] w λe w'=>e= .returned (.int .i64 (if (l.length:Int)<=z0 then z0 - l.length else -1))/\w=w':=by
 unfold maxLen at hl;by_cases hc:(l.length:Int)<=z0
 .rw [aGC hc];have hn:¬(z0 - (l.length:Int) < 0):=Aaa
  go_in
  exact JW
 .rw [aGr hc];have hn:z0 - (l.length:Int) < 0:=Aaa
  go_in
  exact JW
abbrev SentAt (w:World) (a:Option Addr) (l:List jM):Prop:=GR.At aM 4 w a l
abbrev EX (p:jM):Value:= .agg (gV p.i p.t p.k p.n)
theorem SentAt.four {a:Option Addr} {l:List jM} (h:SentAt w a l) (i:Nat) (hi:i < l.length):∃g off,a=some ⟨g,off,none⟩/\g < w.heap.size/\w.cell? ⟨g,off+i*4,none⟩=some (.int .i64 l[i].i)/\w.cell? ⟨g,off+i*4+1,none⟩=some (.int .i64 l[i].t)/\w.cell? ⟨g,off+i*4+2,none⟩=some (.string l[i].k)/\w.cell? ⟨g,off+i*4+3,none⟩=some (.int .i64 l[i].n):=by
 exact ak3
abbrev mq (w:World) (g:Nat) (l:List jM):Prop:=GR.Blk aM 91 w g l
theorem mq.four {l:List jM} (h:mq w g l) (i:Nat) (hi:i < l.length):w.cell? ⟨g,i*4,none⟩=some (.int .i64 l[i].i)/\w.cell? ⟨g,i*4+1,none⟩=some (.int .i64 l[i].t)/\w.cell? ⟨g,i*4+2,none⟩=some (.string l[i].k)/\w.cell? ⟨g,i*4+3,none⟩=some (.int .i64 l[i].n):=
 ⟨by simpa using GR.Blk.cell h aZ i hi 0 Aaa,by simpa using GR.Blk.cell h aZ i hi 1 Aaa,by simpa using GR.Blk.cell h aZ i hi 2 Aaa,by simpa using GR.Blk.cell h aZ i hi 3 Aaa⟩
theorem mq.step {l:List jM} (h:mq w g l) (hb:aI w w'):mq w' g l:=by
 have hl:=GR.Blk.lt h;unfold mq GR.Blk at *;rw [hb.block g hl];exact h
theorem FW:(prog.info? 91).map (λi=>(i.zero,i.size,i.bytes))=some (some (.agg (gV 0 0 ByteArray.empty 0)),4,40):=Aab
theorem adf (n:Nat) (hn:n<=2000000):∀W:World,(Instr.makeSlice 36 (.int .i64 (n:Int)) (.int .i64 (n:Int))).run prog W= .ok (.slice (some ⟨W.heap.size,0,none⟩) n n) (W.alloc (.cells (GR.flat aM (List.replicate n ⟨0,0,ByteArray.empty,0⟩)).toArray 91)):=by
 obtain⟨i0,hi,hz0,hz1,hz2⟩:=aGV FW;intro W;have h:=run_make (P:=prog) W 36 91 i0 (.agg (gV 0 0 ByteArray.empty 0)) underlying36 hi hz0 .i64 .i64 (n:Int) (n:Int) Aaa Aaa Abe Aaa;rw [hz1] at h;have e:=GR.made_flat aM 4 aZ Aaa ⟨0,0,ByteArray.empty,0⟩ (Value.cells (.agg (gV 0 0 ByteArray.empty 0))) rfl n;exact EZ
theorem amh (p:jM) (w:World):Calls prog 113 #[EX p] w (dZ w (EX p)):=by
 obtain⟨pi,pt,pk,pn⟩:=p;go_in
 go_wp2_with fail;refine aGn (v:= .agg (gV pi pt pk pn)) (by simp[results,results113,go_sem]) rfl ⟨rfl,?_⟩;exact Wv
theorem ali (p:jM) (w:World):Calls prog 130 #[EX p,EX p] w (dZ w (.bool true)):=by
 obtain⟨pi,pt,pk,pn⟩:=p;go_in
 exact Wu
theorem Ob (l:List jM) (z:jM) (k:Nat) (hk:k < l.length):(l.take k++List.replicate (l.length - k) z).set k l[k]=l.take (k+1)++List.replicate (l.length - (k+1)) z:=by
 exact abB
theorem agd (cap:Nat) (l:List jM) (w:World) (hl:l.length<=1048576) (ha:SentAt w a l):
 Calls prog 61 #[.slice a l.length cap] w λe w'=>e= .returned (.slice (some ⟨w.heap.size,0,none⟩) l.length l.length)/\mq w' w.heap.size l/\aI w w':=by
 have hmk:=adf l.length Aaa;have HA:=Hq ha;clear ha;go_in
 go_wp2_with fail;go_loopw [4] (λi wr=>∃k:Nat,k<=l.length/\i= .int .i64 k/\mq wr w.heap.size (l.take k++List.replicate (l.length - k) ⟨0,0,ByteArray.empty,0⟩)/\aI w wr) (λi _=>l.length - (intOf i).toNat)
 case atStart=>exact⟨0,aGB _,rfl,by unfold mq GR.Blk;rw [aIf,aHI,Nat.sub_zero];exact aGg w _,dY w _⟩
 case round=>
  open arG in exact Tw
theorem amc (p:jM) (left:Int) (w:World) (h0:0<=left) (h1:left<=1048576) (hk:p.k.size<=maxLen):Calls prog 96 #[EX p,.int .i64 left] w λe w'=>e= .returned (.int .i64 (if (p.k.size:Int)<=left then left - p.k.size else -1))/\aI w w':=by
 obtain⟨pi,pt,pk,pn⟩:=p;dsimp only at hk ⊢;unfold maxLen at hk;by_cases hc:(pk.size:Int)<=left
 .rw [aGC hc];have hn:¬(left - (pk.size:Int) < 0):=Aaa
  go_in
  exact XY
 .rw [aGr hc];have hn:left - (pk.size:Int) < 0:=Aaa
  go_in
  exact XY
theorem afk (a b:Option Addr) (ca cb:Nat) (l:List jM) (w:World) (hl:l.length<=1048600) (ha:SentAt w a l) (hb:SentAt w b l):
 Calls prog 75 #[.slice a l.length ca,.slice b l.length cb] w (dZ w (.bool true)):=by
 have HA:=Hq ha;have HB:=Hq hb;clear ha hb;go_in
 go_wp2_with fail;go_loopw [5] (λi wr=>∃k:Nat,k<=l.length/\i= .int .i64 k/\aI w wr) (λi _=>l.length - (intOf i).toNat)
 case atStart=>exact BM
 case round=>
  obtain⟨k,hk,rfl,hbel⟩:=hrel;have dS:=Hq hbel;clear hbel;by_cases hlt:k < l.length
  .obtain⟨g1,o1,rfl,hg1,s0,s1,s2,s3⟩:=SentAt.four (GR.At.below HA dS) k hlt;obtain⟨g2,o2,rfl,hg2,t0,t1,t2,t3⟩:=SentAt.four (GR.At.below HB dS) k hlt;generalize l[k]=pu at *;have SG:=Hq (λw1=>ali pu w1);obtain⟨pi,pt,pk,pn⟩:=pu;dsimp only at s0 s1 s2 s3 t0 t1 t2 t3;go_wp2_with fail
   go_region_held (λw'=>(w'.cell? ⟨g1,o1+k*4,none⟩=some (.int .i64 pi)/\w'.cell? ⟨g1,o1+k*4+1,none⟩=some (.int .i64 pt)/\w'.cell? ⟨g1,o1+k*4+2,none⟩=some (.string pk)/\w'.cell? ⟨g1,o1+k*4+3,none⟩=some (.int .i64 pn))/\w'.cell? ⟨g2,o2+k*4,none⟩=some (.int .i64 pi)/\w'.cell? ⟨g2,o2+k*4+1,none⟩=some (.int .i64 pt)/\w'.cell? ⟨g2,o2+k*4+2,none⟩=some (.string pk)/\w'.cell? ⟨g2,o2+k*4+3,none⟩=some (.int .i64 pn)) (go_keep)
    (first
     |(go_at_call 130;refine(SG _).mono ?_;rintro e w5 ⟨rfl,hb5⟩;have hb6:aI wr w5:=⟨hb5.os,hb5.tape,hb5.output,hb5.size,hb5.block⟩;clear hb5;have fZ:=Hq (dS.trans (hb6.mono dS.size));have y0:=(hb6.cell (p:=⟨g1,o1+k*4,none⟩) hg1).trans s0;have y1:=(hb6.cell (p:=⟨g1,o1+k*4+1,none⟩) hg1).trans s1;have y2:=(hb6.cell (p:=⟨g1,o1+k*4+2,none⟩) hg1).trans s2;have y3:=(hb6.cell (p:=⟨g1,o1+k*4+3,none⟩) hg1).trans s3;have z0:=(hb6.cell (p:=⟨g2,o2+k*4,none⟩) hg2).trans t0;have z1:=(hb6.cell (p:=⟨g2,o2+k*4+1,none⟩) hg2).trans t1;have z2:=(hb6.cell (p:=⟨g2,o2+k*4+2,none⟩) hg2).trans t2;have z3:=(hb6.cell (p:=⟨g2,o2+k*4+3,none⟩) hg2).trans t3;clear hb6))
   all_goals
    go_wp2_with fail
    go_roundw
    case rel=>exact⟨k+1,Aaa,Aaf,fZ⟩
    case measure=>simp[intOf];omega
  .exact TB
theorem aga (ca:Nat) (l:List jM) (z0:Int) (w:World) (h0:0<=z0) (h1:z0<=1048576) (hl:l.length<=maxLen) (hks:∀p∈l,p.k.size<=maxLen) (ha:SentAt w a l):
 Calls prog 41 #[.slice a l.length ca,.int .i64 z0] w λe w'=>∃r:Int,e= .returned (.int .i64 r)/\aI w w'/\(r= -1\/0<=r/\r<=1048576/\l.length<=1048576/\∀p∈l,p.k.size<=1048576):=by
 have HA:=Hq ha;clear ha;unfold maxLen at hl;by_cases hbig:(l.length:Int)<=z0
 .have hn:¬(z0 - (l.length:Int) < 0):=Aaa
  go_in
  go_wp2_with fail;go_loopw [1,5] (λlf i wr=>∃(k:Nat) (z:Int),k<=l.length/\i= .int .i64 k/\lf= .int .i64 z/\0<=z/\z<=1048576/\(∀p∈l.take k,p.k.size<=1048576)/\aI w wr) (λ_ i _=>l.length - (intOf i).toNat)
  case atStart=>exact XW
  case round=>
   open asH in exact JV
 .have hn:z0 - (l.length:Int) < 0:=Aaa
  go_in
  exact Wz
abbrev gZ (w:World) (a:Option Addr) (l:List Rq):Prop:=GR.At aJ 4 w a l
abbrev aaD (p:Rq):Value:= .agg (fH p.no p.k p.n p.s)
theorem gZ.four {a:Option Addr} {l:List Rq} (h:gZ w a l) (i:Nat) (hi:i < l.length):∃g off,a=some ⟨g,off,none⟩/\g < w.heap.size/\w.cell? ⟨g,off+i*4,none⟩=some (.int .i64 l[i].no)/\w.cell? ⟨g,off+i*4+1,none⟩=some (.string l[i].k)/\w.cell? ⟨g,off+i*4+2,none⟩=some (.int .i64 l[i].n)/\w.cell? ⟨g,off+i*4+3,none⟩=some (.int .i64 l[i].s):=by
 exact ak3
abbrev qA (w:World) (g:Nat) (l:List Rq):Prop:=GR.Blk aJ 95 w g l
theorem qA.four {l:List Rq} (h:qA w g l) (i:Nat) (hi:i < l.length):w.cell? ⟨g,i*4,none⟩=some (.int .i64 l[i].no)/\w.cell? ⟨g,i*4+1,none⟩=some (.string l[i].k)/\w.cell? ⟨g,i*4+2,none⟩=some (.int .i64 l[i].n)/\w.cell? ⟨g,i*4+3,none⟩=some (.int .i64 l[i].s):=
 ⟨by simpa using GR.Blk.cell h aN i hi 0 Aaa,by simpa using GR.Blk.cell h aN i hi 1 Aaa,by simpa using GR.Blk.cell h aN i hi 2 Aaa,by simpa using GR.Blk.cell h aN i hi 3 Aaa⟩
theorem qA.step {l:List Rq} (h:qA w g l) (hb:aI w w'):qA w' g l:=by
 have hl:=GR.Blk.lt h;unfold qA GR.Blk at *;rw [hb.block g hl];exact h
theorem Ai:(prog.info? 95).map (λi=>(i.zero,i.size,i.bytes))=some (some (.agg (fH 0 ByteArray.empty 0 0)),4,40):=Aab
theorem afO (n:Nat) (hn:n<=2000000):∀W:World,(Instr.makeSlice 38 (.int .i64 (n:Int)) (.int .i64 (n:Int))).run prog W= .ok (.slice (some ⟨W.heap.size,0,none⟩) n n) (W.alloc (.cells (GR.flat aJ (List.replicate n ⟨0,ByteArray.empty,0,0⟩)).toArray 95)):=by
 obtain⟨i0,hi,hz0,hz1,hz2⟩:=aGV Ai;intro W;have h:=run_make (P:=prog) W 38 95 i0 (.agg (fH 0 ByteArray.empty 0 0)) underlying38 hi hz0 .i64 .i64 (n:Int) (n:Int) Aaa Aaa Abe Aaa;rw [hz1] at h;have e:=GR.made_flat aJ 4 aN Aaa ⟨0,ByteArray.empty,0,0⟩ (Value.cells (.agg (fH 0 ByteArray.empty 0 0))) rfl n;exact EZ
theorem aBs (p:Rq) (w:World):Calls prog 115 #[aaD p] w (dZ w (aaD p)):=by
 obtain⟨pno,pk,pn,ps⟩:=p;go_in
 go_wp2_with fail;refine aGn (v:= .agg (fH pno pk pn ps)) (by simp[results,results115,go_sem]) rfl ⟨rfl,?_⟩;exact Wv
theorem az7 (p:Rq) (w:World):Calls prog 132 #[aaD p,aaD p] w (dZ w (.bool true)):=by
 obtain⟨pno,pk,pn,ps⟩:=p;go_in
 exact Wu
theorem RZ (l:List Rq) (z:Rq) (k:Nat) (hk:k < l.length):(l.take k++List.replicate (l.length - k) z).set k l[k]=l.take (k+1)++List.replicate (l.length - (k+1)) z:=by
 exact abB
theorem amf (cap:Nat) (l:List Rq) (w:World) (hl:l.length<=1048576) (ha:gZ w a l):
 Calls prog 63 #[.slice a l.length cap] w λe w'=>e= .returned (.slice (some ⟨w.heap.size,0,none⟩) l.length l.length)/\qA w' w.heap.size l/\aI w w':=by
 have hmk:=afO l.length Aaa;have HA:=Hq ha;clear ha;go_in
 go_wp2_with fail;go_loopw [4] (λi wr=>∃k:Nat,k<=l.length/\i= .int .i64 k/\qA wr w.heap.size (l.take k++List.replicate (l.length - k) ⟨0,ByteArray.empty,0,0⟩)/\aI w wr) (λi _=>l.length - (intOf i).toNat)
 case atStart=>exact⟨0,aGB _,rfl,by unfold qA GR.Blk;rw [aIf,aHI,Nat.sub_zero];exact aGg w _,dY w _⟩
 case round=>
  open arH in exact Tw
theorem aBr (p:Rq) (left:Int) (w:World) (h0:0<=left) (h1:left<=1048576) (hk:p.k.size<=maxLen):Calls prog 98 #[aaD p,.int .i64 left] w λe w'=>e= .returned (.int .i64 (if (p.k.size:Int)<=left then left - p.k.size else -1))/\aI w w':=by
 obtain⟨pno,pk,pn,ps⟩:=p;dsimp only at hk ⊢;unfold maxLen at hk;by_cases hc:(pk.size:Int)<=left
 .rw [aGC hc];have hn:¬(left - (pk.size:Int) < 0):=Aaa
  go_in
  exact XY
 .rw [aGr hc];have hn:left - (pk.size:Int) < 0:=Aaa
  go_in
  exact XY
theorem alg (a b:Option Addr) (ca cb:Nat) (l:List Rq) (w:World) (hl:l.length<=1048600) (ha:gZ w a l) (hb:gZ w b l):
 Calls prog 77 #[.slice a l.length ca,.slice b l.length cb] w (dZ w (.bool true)):=by
 have HA:=Hq ha;have HB:=Hq hb;clear ha hb;go_in
 go_wp2_with fail;go_loopw [5] (λi wr=>∃k:Nat,k<=l.length/\i= .int .i64 k/\aI w wr) (λi _=>l.length - (intOf i).toNat)
 case atStart=>exact BM
 case round=>
  obtain⟨k,hk,rfl,hbel⟩:=hrel;have dS:=Hq hbel;clear hbel;by_cases hlt:k < l.length
  .obtain⟨g1,o1,rfl,hg1,s0,s1,s2,s3⟩:=gZ.four (GR.At.below HA dS) k hlt;obtain⟨g2,o2,rfl,hg2,t0,t1,t2,t3⟩:=gZ.four (GR.At.below HB dS) k hlt;generalize l[k]=pu at *;have SG:=Hq (λw1=>az7 pu w1);obtain⟨pno,pk,pn,ps⟩:=pu;dsimp only at s0 s1 s2 s3 t0 t1 t2 t3;go_wp2_with fail
   go_region_held (λw'=>(w'.cell? ⟨g1,o1+k*4,none⟩=some (.int .i64 pno)/\w'.cell? ⟨g1,o1+k*4+1,none⟩=some (.string pk)/\w'.cell? ⟨g1,o1+k*4+2,none⟩=some (.int .i64 pn)/\w'.cell? ⟨g1,o1+k*4+3,none⟩=some (.int .i64 ps))/\w'.cell? ⟨g2,o2+k*4,none⟩=some (.int .i64 pno)/\w'.cell? ⟨g2,o2+k*4+1,none⟩=some (.string pk)/\w'.cell? ⟨g2,o2+k*4+2,none⟩=some (.int .i64 pn)/\w'.cell? ⟨g2,o2+k*4+3,none⟩=some (.int .i64 ps)) (go_keep)
    (first
     |(go_at_call 132;refine(SG _).mono ?_;rintro e w5 ⟨rfl,hb5⟩;have hb6:aI wr w5:=⟨hb5.os,hb5.tape,hb5.output,hb5.size,hb5.block⟩;clear hb5;have fZ:=Hq (dS.trans (hb6.mono dS.size));have y0:=(hb6.cell (p:=⟨g1,o1+k*4,none⟩) hg1).trans s0;have y1:=(hb6.cell (p:=⟨g1,o1+k*4+1,none⟩) hg1).trans s1;have y2:=(hb6.cell (p:=⟨g1,o1+k*4+2,none⟩) hg1).trans s2;have y3:=(hb6.cell (p:=⟨g1,o1+k*4+3,none⟩) hg1).trans s3;have z0:=(hb6.cell (p:=⟨g2,o2+k*4,none⟩) hg2).trans t0;have z1:=(hb6.cell (p:=⟨g2,o2+k*4+1,none⟩) hg2).trans t1;have z2:=(hb6.cell (p:=⟨g2,o2+k*4+2,none⟩) hg2).trans t2;have z3:=(hb6.cell (p:=⟨g2,o2+k*4+3,none⟩) hg2).trans t3;clear hb6))
   all_goals
    go_wp2_with fail
    go_roundw
    case rel=>exact⟨k+1,Aaa,Aaf,fZ⟩
    case measure=>simp[intOf];omega
  .exact TB
theorem ama (ca:Nat) (l:List Rq) (z0:Int) (w:World) (h0:0<=z0) (h1:z0<=1048576) (hl:l.length<=maxLen) (hks:∀p∈l,p.k.size<=maxLen) (ha:gZ w a l):
 Calls prog 43 #[.slice a l.length ca,.int .i64 z0] w λe w'=>∃r:Int,e= .returned (.int .i64 r)/\aI w w'/\(r= -1\/0<=r/\r<=1048576/\l.length<=1048576/\∀p∈l,p.k.size<=1048576):=by
 have HA:=Hq ha;clear ha;unfold maxLen at hl;by_cases hbig:(l.length:Int)<=z0
 .have hn:¬(z0 - (l.length:Int) < 0):=Aaa
  go_in
  go_wp2_with fail;go_loopw [1,5] (λlf i wr=>∃(k:Nat) (z:Int),k<=l.length/\i= .int .i64 k/\lf= .int .i64 z/\0<=z/\z<=1048576/\(∀p∈l.take k,p.k.size<=1048576)/\aI w wr) (λ_ i _=>l.length - (intOf i).toNat)
  case atStart=>exact XW
  case round=>
   open asI in exact JV
 .have hn:z0 - (l.length:Int) < 0:=Aaa
  go_in
  exact Wz
theorem alS (n:Int) (w:World):Calls prog 207 #[.int .i64 n] w λe w'=>e= .returned (.bool (decide (yI n 0 1000000000)))/\w=w':=by
 by_cases h0:0<=n
 .by_cases h1:n<=1000000000
  .rw [aGk (show yI n 0 1000000000 from⟨h0,h1⟩)];exact abk
  .rw [aGi (show¬yI n 0 1000000000 from λh=>h1 h.2)];exact abk
 .rw [aGi (show¬yI n 0 1000000000 from λh=>h0 h.1)];exact abk
theorem kV (n:Int) (b:Bool) (w:World) (h:rz n=b):Calls prog 207 #[.int .i64 n] w λe w'=>e= .returned (.bool b)/\w=w':=by
 have e:decide (yI n 0 1000000000)=b:=h;rw [<-e];exact alS n w
theorem Ag (s:ByteArray) (b:Bool) (w:World) (h:keyOk s.data.toList=b):Calls prog 204 #[.string s] w λe w'=>e= .returned (.bool b)/\w=w':=by
 rw [<-h];exact Kh s w
theorem acQ (p:Pu) (w:World):Calls prog 202 #[xW p] w (dZ w (.bool (iI p))):=by
 obtain⟨pk,pm,pf,ps⟩:=p;cases hk:keyOk pk.data.toList
 case' false=>
  have HP:=Hq (show iI ⟨pk,pm,pf,ps⟩=false by simp[iI,hk]);have HK:=Hq (λw1=>Ag pk false w1 hk);clear hk;go_in
  go_wp2_with (go_at_call 204;refine(HK _).mono ?_;rintro e w1 ⟨rfl,rfl⟩)
  exact Pb
 have HK:=Hq (λw1=>Ag pk true w1 hk);cases h1:rz pm
 case' false=>
  have HP:=Hq (show iI ⟨pk,pm,pf,ps⟩=false by simp[iI,h1]);have H1:=Hq (λw1=>kV pm false w1 h1);clear hk h1;go_in
  go_wp2_with (first|(go_at_call 204;refine(HK _).mono ?_;rintro e w1 ⟨rfl,rfl⟩)|(go_at_call 207;refine(H1 _).mono ?_;rintro e w1 ⟨rfl,rfl⟩))
  exact Pb
 have H1:=Hq (λw1=>kV pm true w1 h1);cases h2:rz pf
 case' false=>
  have HP:=Hq (show iI ⟨pk,pm,pf,ps⟩=false by simp[iI,h2]);have H2:=Hq (λw1=>kV pf false w1 h2);clear hk h1 h2;go_in
  go_wp2_with (first|(go_at_call 204;refine(HK _).mono ?_;rintro e w1 ⟨rfl,rfl⟩)|(go_at_call_of 207 pm;refine(H1 _).mono ?_;rintro e w1 ⟨rfl,rfl⟩)|(go_at_call_of 207 pf;refine(H2 _).mono ?_;rintro e w1 ⟨rfl,rfl⟩))
  exact Pb
 have H2:=Hq (λw1=>kV pf true w1 h2);cases h3:rz ps
 case' false=>
  have HP:=Hq (show iI ⟨pk,pm,pf,ps⟩=false by simp[iI,h3]);have H3:=Hq (λw1=>kV ps false w1 h3);clear hk h1 h2 h3;go_in
  go_wp2_with (first|(go_at_call 204;refine(HK _).mono ?_;rintro e w1 ⟨rfl,rfl⟩)|(go_at_call_of 207 pm;refine(H1 _).mono ?_;rintro e w1 ⟨rfl,rfl⟩)|(go_at_call_of 207 pf;refine(H2 _).mono ?_;rintro e w1 ⟨rfl,rfl⟩)|(go_at_call_of 207 ps;refine(H3 _).mono ?_;rintro e w1 ⟨rfl,rfl⟩))
  exact Pb
 have H3:=Hq (λw1=>kV ps true w1 h3);have g2:0<=pf/\pf<=1000000000:=aGw h2;have g3:0<=ps/\ps<=1000000000:=aGw h3;obtain⟨g20,g21⟩:=g2;obtain⟨g30,g31⟩:=g3;have HP:=Hq (show iI ⟨pk,pm,pf,ps⟩=rz (pf+ps) by simp[iI,hk,h1,h2,h3]);have H4:=Hq (λw1=>kV (pf+ps) _ w1 rfl);clear hk h1 h2 h3;go_in
 go_wp2_with (first|(go_at_call 204;refine(HK _).mono ?_;rintro e w1 ⟨rfl,rfl⟩)|(go_at_call_of 207 pm;refine(H1 _).mono ?_;rintro e w1 ⟨rfl,rfl⟩)|(go_at_call_of 207 pf;refine(H2 _).mono ?_;rintro e w1 ⟨rfl,rfl⟩)|(go_at_call_of 207 ps;refine(H3 _).mono ?_;rintro e w1 ⟨rfl,rfl⟩)|(go_at_call_of 207 (pf+ps);refine(H4 _).mono ?_;rintro e w1 ⟨rfl,rfl⟩))
 exact Pb
def xP (w:World) (a:Option Addr) (g:Nat) (l:List Pu):Prop:=∀i (hi:i < l.length),a=some ⟨g,0,none⟩/\g < w.heap.size/\∀j,j < 4->w.cell? ⟨g,i*4+j,none⟩=(fD l[i])[j]?/\w.frozen? ⟨g,i*4+j,none⟩=false
theorem xP.at {a:Option Addr} (h:xP w a g l):aH w a l:=λi hi=>
 ⟨g,0,(h i hi).1,(h i hi).2.1,λj hj=>by rw [aHj];exact((h i hi).2.2 j hj).1⟩
theorem xP.of_blk (h:tK w g l):xP w (some ⟨g,0,none⟩) g l:=λi hi=>
 ⟨rfl,GR.Blk.lt h,λj hj=>⟨GR.Blk.cell h aU i hi j hj,GR.Blk.free h _⟩⟩
theorem xP.nil {a:Option Addr}:xP w a g []:=λi hi=>by simp at hi
theorem xP.below {a:Option Addr} (h:xP w a g l) (hb:aI w w'):xP w' a g l:=λi hi=>by
 obtain⟨e,hg,hc⟩:=h i hi;exact⟨e,aGq hg hb.size,λj hj=>⟨(hb.cell (p:=⟨g,i*4+j,none⟩) hg).trans (hc j hj).1,(hb.frozen (p:=⟨g,i*4+j,none⟩) hg).trans (hc j hj).2⟩⟩
theorem xP.keeps {a:Option Addr} {g':Nat} (h:xP w a g l) (hk:Keeps g' w w') (hne:l=[]\/g≠g'):xP w' a g l:=by
 rcases hne with rfl|hne
 .exact xP.nil
 .intro i hi;obtain⟨e,hg,hc⟩:=h i hi;exact aiC
theorem xP.four {a:Option Addr} (h:xP w a g l) (i:Nat) (hi:i < l.length):a=some ⟨g,0,none⟩/\g < w.heap.size/\(w.cell? ⟨g,i*4,none⟩=some (.string l[i].k)/\w.cell? ⟨g,i*4+1,none⟩=some (.int .i64 l[i].m)/\w.cell? ⟨g,i*4+2,none⟩=some (.int .i64 l[i].f)/\w.cell? ⟨g,i*4+3,none⟩=some (.int .i64 l[i].s))/\w.frozen? ⟨g,i*4,none⟩=false/\w.frozen? ⟨g,i*4+1,none⟩=false/\w.frozen? ⟨g,i*4+2,none⟩=false/\w.frozen? ⟨g,i*4+3,none⟩=false:=by
 exact aeT
theorem vN:∀(vs:List Value) (w:World) (o:Nat),k < o\/o+vs.length<=k->(GR.setW w g o vs).cell? ⟨g,k,none⟩=w.cell? ⟨g,k,none⟩:=by
 exact aip
theorem Gs {g:Nat}:∀(vs:List Value) (w:World) (o:Nat),(∀j,j < vs.length->∃v,w.cell? ⟨g,o+j,none⟩=some v)->∀j,j < vs.length->(GR.setW w g o vs).cell? ⟨g,o+j,none⟩=vs[j]?:=by
 intro vs;induction vs with
 |nil=>intro w o _ j hj;simp at hj
 |cons v vs ih=>
  intro w o h j hj;cases j with
  |zero=>
   obtain⟨v0,hv0⟩:=h 0 Aac;rw [aIa] at hv0 ⊢;refine(vN vs (w.setCell ⟨g,o,none⟩ v) (o+1) Aaa).trans ?_;rw [aId _ _ _ hv0];rfl
  |succ j=>
   exact azX
theorem Rf:∀(vs:List Value) (w:World) (o:Nat),(GR.setW w g o vs).frozen? ⟨g,k,none⟩=w.frozen? ⟨g,k,none⟩:=by
 exact aiT
theorem Zv:∀(vs:List Value) (w:World) (o:Nat),(GR.setW w g o vs).heap.size=w.heap.size:=by
 exact aiY
theorem xP.set {a:Option Addr} (h:xP w a g l) (k:Nat) (x:Pu) (hk:k < l.length):xP (GR.setW w g (k*4) (fD x)) a g (l.set k x):=λi hi=>by
 have hi':i < l.length:=Aao
 obtain⟨e,hg,hc⟩:=h i hi';refine⟨e,by rw [Zv];exact hg,λj hj=>⟨?_,by rw [Rf];exact(hc j hj).2⟩⟩;by_cases hik:i=k
 .subst hik
  rw [Gs (fD x) w (i*4) (λj' hj'=>by
   have hj4:j' < 4:=by rw [aU] at hj';exact hj'
   have h1:=(hc j' hj4).1
   rw [aGo (by rw [aU];exact hj4)] at h1
   exact⟨_,h1⟩) j (by rw [aU];exact hj)]
  simp
 .rw [vN (fD x) w (k*4) (by rw [aU];omega),(hc j hj).1,aGQ Aaa]
theorem M7 (cap:Nat) (l:List Pu) (w:World) (hl:l.length<=1048600) (hn:a=none->l.length=0/\cap=0) (ha:aH w a l):
 Calls prog 80 #[.slice a l.length cap] w λe w'=>∃v,e= .returned v/\v≠ .slice none 0 0/\w'.ownsRow w.heap.size 108 4 v l.length (GR.flat fD l)/\aI w w':=by
 obtain⟨i0,hi,hz0,hz1,hz2⟩:=aGV FU;open aw3 in exact ahQ
theorem own_lower {b b':Nat} {e:TypeId} {sz:Nat} {v:Value} {n:Nat} {xs:List Value} (h:w.ownsRow b e sz v n xs) (hb:b'<=b):w.ownsRow b' e sz v n xs:=by
 exact ajb
theorem Qw (a:Option Addr) (cap:Nat) (l:List Pu) (p:Pu) (n:Int) (w:World) (hl:l.length<=1048600) (hk:∀p∈l,p.k.size<=maxLen) (hn:a=none->l.length=0/\cap=0) (ha:aH w a l) (hno:jD l=false\/¬(1<=n/\n<=1000000000)):
 Calls prog 182 #[.slice a l.length cap,xW p,.int .i64 n] w λe w'=>∃v,e= .returned (.tuple #[v,.bool false])/\v≠ .slice none 0 0/\w'.ownsRow w.heap.size 108 4 v l.length (GR.flat fD l)/\aI w w':=by
 have oN:=Hq (λw1 (h:aH w1 a l)=>qc a cap l w1 hl hk h);have Oj:=Hq (λw1 (h:aH w1 a l)=>M7 a cap l w1 hl hn h);have HA:=Hq ha;clear ha hk hn;obtain⟨pk,pm,pf,ps⟩:=p;go_in
 go_wp2_with fail;refine(oN _ (GR.At.below HA (dY w _))).mono ?_;rintro e w1 ⟨rfl,hb1⟩;have HB1:=Hq ((dY w _).trans (hb1.mono (dY w _).size));clear hb1;cases hok:jD l with
 |false=>
  exact azR
 |true=>
  have hn2:decide (yI n 1 1000000000)=false:=aGi (by rcases hno with h|h;(rw [hok] at h;cases h);exact h);go_wp2_with fail;refine(UD _ _ _ _).mono ?_;rintro e w3 ⟨rfl,rfl⟩;rw [hn2];exact azR
theorem aeb (f:Pu->Bool):∀(l:List Pu) (k:Nat),k<=l.length->(∀q∈l.take k,f q=true)->(∀h:k < l.length,f l[k]=false)->l.takeWhile f=l.take k/\l.dropWhile f=l.drop k:=by
 intro l;induction l with
 |nil=>intro k hk _ _;simp
 |cons x r ih=>
  intro k hk h1 h2;cases k with
  |zero=>
   have hx:f x=false:=h2 Aac;simp[hx]
  |succ k=>
   have hx:f x=true:=h1 x Aac;obtain⟨g1,g2⟩:=ih k Abn (λq hq=>h1 q (by simp[hq])) (λh=>h2 Abd);simp[hx,g1,g2]
end Go.Proofs.YtohmklmkjmlpjaaGreatDoor
