/- Parts. -/
import Derived.Test.YtbolgdleijjgfaaGreatDoorRs5
import Derived.Test.YtbolgdleijjgfaaGreatDoorRs8
namespace Go.Proofs.YtbolgdleijjgfaaGreatDoor
open Go.Proofs.Tryz
set_option maxHeartbeats 2000000
set_option maxRecDepth 100000
open Go.RowKit
open Mth
variable (a:Option Addr) {w w':World} {g k:Nat} {l:List Pu}
abbrev tC (w:World) (g:Nat) (l:List Pu):Prop:=GR.Blk fu 155 w g l
theorem tC.four (h:tC w g l) (i:Nat) (hi:i < l.length):w.cell? ⟨g,i*4,none⟩=some (.string l[i].k)/\w.cell? ⟨g,i*4+1,none⟩=some (.int .i64 l[i].m)/\w.cell? ⟨g,i*4+2,none⟩=some (.int .i64 l[i].f)/\w.cell? ⟨g,i*4+3,none⟩=some (.int .i64 l[i].s):=
 ⟨by simpa using GR.Blk.cell h aP i hi 0 Aaa,by simpa using GR.Blk.cell h aP i hi 1 Aaa,by simpa using GR.Blk.cell h aP i hi 2 Aaa,by simpa using GR.Blk.cell h aP i hi 3 Aaa⟩
theorem LA (h:tC w g l) (hb:aH w w'):tC w' g l:=by
 have hl:=GR.Blk.lt h;unfold tC GR.Blk at *;rw [hb.block g hl];exact h
theorem Dj (n:Nat) (hn:n<=2000000):∀W:World,(Instr.makeSlice 34 (.int .i64 (n:Int)) (.int .i64 (n:Int))).run prog W= .ok (.slice (some ⟨W.heap.size,0,none⟩) n n) (W.alloc (.cells (GR.flat fu (List.replicate n ⟨ByteArray.empty,0,0,0⟩)).toArray 155)):=by
 obtain⟨i0,hi,hz0,hz1,hz2⟩:=aFm FN;intro W;have h:=run_make (P:=prog) W 34 155 i0 (.agg (iR ByteArray.empty 0 0 0)) underlying34 hi hz0 .i64 .i64 (n:Int) (n:Int) Aaa Aaa Abd Aaa;rw [hz1] at h;have e:=GR.made_flat fu 4 aP Aaa ⟨ByteArray.empty,0,0,0⟩ (Value.agg (iR ByteArray.empty 0 0 0)).cells rfl n;exact Tf
theorem af2 (p:Pu) (w:World):Calls prog 100 #[yc p] w (dM w (yc p)):=by
 obtain⟨k,m,f,s⟩:=p;go_in
 go_wp2_with fail;refine aET (v:= .agg (iR k m f s)) (by simp[results,results100,go_sem]) rfl ⟨rfl,?_⟩;exact VW
theorem ae9 (p:Pu) (w:World):Calls prog 117 #[yc p,yc p] w (dM w (.bool true)):=by
 obtain⟨k,m,f,s⟩:=p;go_in
 exact aeU
theorem Dr (l:List Pu) (z:Pu) (k:Nat) (hk:k < l.length):(l.take k++List.replicate (l.length - k) z).set k l[k]=l.take (k+1)++List.replicate (l.length - (k+1)) z:=by
 exact abn
theorem adK (cap:Nat) (l:List Pu) (w:World) (hl:l.length<=1048576) (ha:aG w a l):
 Calls prog 52 #[.slice a l.length cap] w λe w'=>e= .returned (.slice (some ⟨w.heap.size,0,none⟩) l.length l.length)/\tC w' w.heap.size l/\aH w w':=by
 have hmk:=Dj l.length Aaa;have HA:=Hq ha;clear ha;go_in
 go_wp2_with fail;go_loopw [4] (λi wr=>∃k:Nat,k<=l.length/\i= .int .i64 k/\tC wr w.heap.size (l.take k++List.replicate (l.length - k) ⟨ByteArray.empty,0,0,0⟩)/\aH w wr) (λi _=>l.length - (intOf i).toNat)
 case atStart=>exact aio
 case round=>
  open aqe in exact SN
theorem afY (p:Pu) (left:Int) (w:World) (h0:0<=left) (h1:left<=1048576) (hk:p.k.size<=maxLen):Calls prog 82 #[yc p,.int .i64 left] w λe w'=>e= .returned (.int .i64 (if (p.k.size:Int)<=left then left - p.k.size else -1))/\aH w w':=by
 obtain⟨k,m,f,s⟩:=p;dsimp only at hk ⊢;unfold maxLen at hk;by_cases hc:(k.size:Int)<=left
 .rw [aE7 hc];have hn:¬(left - (k.size:Int) < 0):=Aaa
  go_in
  exact XV
 .rw [aEX hc];have hn:left - (k.size:Int) < 0:=Aaa
  go_in
  exact XV
theorem abG (a b:Option Addr) (ca cb:Nat) (l:List Pu) (w:World) (hl:l.length<=1048600) (ha:aG w a l) (hb:aG w b l):
 Calls prog 66 #[.slice a l.length ca,.slice b l.length cb] w (dM w (.bool true)):=by
 have HA:=Hq ha;have HB:=Hq hb;clear ha hb;go_in
 go_wp2_with fail;go_loopw [5] (λi wr=>∃k:Nat,k<=l.length/\i= .int .i64 k/\aH w wr) (λi _=>l.length - (intOf i).toNat)
 case atStart=>exact BP
 case round=>
  obtain⟨k,hk,rfl,hbel⟩:=hrel;have aY:=Hq hbel;clear hbel;by_cases hlt:k < l.length
  .obtain⟨g1,o1,rfl,hg1,s0,s1,s2,s3⟩:=aG.four (GR.At.below HA aY) k hlt;obtain⟨g2,o2,rfl,hg2,t0,t1,t2,t3⟩:=aG.four (GR.At.below HB aY) k hlt;generalize l[k]=pu at *;have Sm:=Hq (λw1=>ae9 pu w1);obtain⟨pk,pm,pf,ps⟩:=pu;dsimp only at s0 s1 s2 s3 t0 t1 t2 t3;go_wp2_with fail
   go_region_held (λw'=>(w'.cell? ⟨g1,o1+k*4,none⟩=some (.string pk)/\w'.cell? ⟨g1,o1+k*4+1,none⟩=some (.int .i64 pm)/\w'.cell? ⟨g1,o1+k*4+2,none⟩=some (.int .i64 pf)/\w'.cell? ⟨g1,o1+k*4+3,none⟩=some (.int .i64 ps))/\w'.cell? ⟨g2,o2+k*4,none⟩=some (.string pk)/\w'.cell? ⟨g2,o2+k*4+1,none⟩=some (.int .i64 pm)/\w'.cell? ⟨g2,o2+k*4+2,none⟩=some (.int .i64 pf)/\w'.cell? ⟨g2,o2+k*4+3,none⟩=some (.int .i64 ps)) (go_keep)
    (first
     |(go_at_call 117;refine(Sm _).mono ?_;rintro e w5 ⟨rfl,hb5⟩;have hb6:aH wr w5:=⟨hb5.os,hb5.tape,hb5.output,hb5.size,hb5.block⟩;clear hb5;have fI:=Hq (aY.trans (hb6.mono aY.size));have y0:=(hb6.cell (p:=⟨g1,o1+k*4,none⟩) hg1).trans s0;have y1:=(hb6.cell (p:=⟨g1,o1+k*4+1,none⟩) hg1).trans s1;have y2:=(hb6.cell (p:=⟨g1,o1+k*4+2,none⟩) hg1).trans s2;have y3:=(hb6.cell (p:=⟨g1,o1+k*4+3,none⟩) hg1).trans s3;have z0:=(hb6.cell (p:=⟨g2,o2+k*4,none⟩) hg2).trans t0;have z1:=(hb6.cell (p:=⟨g2,o2+k*4+1,none⟩) hg2).trans t1;have z2:=(hb6.cell (p:=⟨g2,o2+k*4+2,none⟩) hg2).trans t2;have z3:=(hb6.cell (p:=⟨g2,o2+k*4+3,none⟩) hg2).trans t3;clear hb6))
   all_goals
    go_wp2_with fail
    go_roundw
    case rel=>exact⟨k+1,Aaa,Aaf,fI⟩
    case measure=>simp[intOf];omega
  .exact SY
theorem ZH (ca:Nat) (l:List Pu) (z0:Int) (w:World) (h0:0<=z0) (h1:z0<=1048576) (hl:l.length<=maxLen) (hks:∀p∈l,p.k.size<=maxLen) (ha:aG w a l):
 Calls prog 40 #[.slice a l.length ca,.int .i64 z0] w λe w'=>∃r:Int,e= .returned (.int .i64 r)/\aH w w'/\(r= -1\/0<=r/\r<=1048576/\l.length<=1048576/\∀p∈l,p.k.size<=1048576):=by
 have HA:=Hq ha;clear ha;unfold maxLen at hl;by_cases hbig:(l.length:Int)<=z0
 .have hn:¬(z0 - (l.length:Int) < 0):=Aaa
  go_in
  go_wp2_with fail;go_loopw [1,5] (λlf i wr=>∃(k:Nat) (z:Int),k<=l.length/\i= .int .i64 k/\lf= .int .i64 z/\0<=z/\z<=1048576/\(∀p∈l.take k,p.k.size<=1048576)/\aH w wr) (λ_ i _=>l.length - (intOf i).toNat)
  case atStart=>exact XU
  case round=>
   open arh in exact XP
 .have hn:z0 - (l.length:Int) < 0:=Aaa
  go_in
  exact Wh
abbrev bC (w:World) (a:Option Addr) (l:List Int):Prop:=GR.At bf 1 w a l
theorem bC.one {a:Option Addr} {l:List Int} (h:bC w a l) (i:Nat) (hi:i < l.length):∃g off,a=some ⟨g,off,none⟩/\g < w.heap.size/\w.cell? ⟨g,off+i,none⟩=some (.int .i64 l[i]):=by
 obtain⟨g,off,e,hg,hc⟩:=h i hi;refine⟨g,off,e,hg,?_⟩;simpa using hc 0 Aaa
abbrev lZ (w:World) (g:Nat) (l:List Int):Prop:=GR.Blk bf 3 w g l
theorem lZ.one {l:List Int} (h:lZ w g l) (i:Nat) (hi:i < l.length):w.cell? ⟨g,i,none⟩=some (.int .i64 l[i]):=by
 simpa using GR.Blk.cell h aW i hi 0 Aaa
theorem lZ.step {l:List Int} (h:lZ w g l) (hb:aH w w'):lZ w' g l:=by
 have hl:=GR.Blk.lt h;unfold lZ GR.Blk at *;rw [hb.block g hl];exact h
theorem xG:(prog.info? 3).map (λi=>(i.zero,i.size,i.bytes))=some (some (.int .i64 0),1,8):=Aab
theorem acN (n:Nat) (hn:n<=2000000):∀W:World,(Instr.makeSlice 22 (.int .i64 (n:Int)) (.int .i64 (n:Int))).run prog W= .ok (.slice (some ⟨W.heap.size,0,none⟩) n n) (W.alloc (.cells (GR.flat bf (List.replicate n 0)).toArray 3)):=by
 obtain⟨i0,hi,hz0,hz1,hz2⟩:=aFm xG;intro W;have h:=run_make (P:=prog) W 22 3 i0 (.int .i64 0) underlying22 hi hz0 .i64 .i64 (n:Int) (n:Int) Aaa Aaa Abd Aaa;rw [hz1] at h;have e:=GR.made_flat bf 1 aW Aaa 0 (Value.cells (.int .i64 0)) rfl n;exact Tf
theorem ZI (l:List Int) (z:Int) (k:Nat) (hk:k < l.length):(l.take k++List.replicate (l.length - k) z).set k l[k]=l.take (k+1)++List.replicate (l.length - (k+1)) z:=by
 exact abn
theorem adI (cap:Nat) (l:List Int) (w:World) (hl:l.length<=1048576) (ha:bC w a l):
 Calls prog 51 #[.slice a l.length cap] w λe w'=>e= .returned (.slice (some ⟨w.heap.size,0,none⟩) l.length l.length)/\lZ w' w.heap.size l/\aH w w':=by
 have hmk:=acN l.length Aaa;have HA:=Hq ha;clear ha;go_in
 go_wp2_with fail;go_loopw [4] (λi wr=>∃k:Nat,k<=l.length/\i= .int .i64 k/\lZ wr w.heap.size (l.take k++List.replicate (l.length - k) 0)/\aH w wr) (λi _=>l.length - (intOf i).toNat)
 case atStart=>exact⟨0,aE1 _,rfl,by unfold lZ GR.Blk;rw [aGA,aF0,Nat.sub_zero];exact aEK w _,dP w _⟩
 case round=>
  open aqf in exact SN
theorem abD (a b:Option Addr) (ca cb:Nat) (l:List Int) (w:World) (hl:l.length<=1048600) (ha:bC w a l) (hb:bC w b l):
 Calls prog 65 #[.slice a l.length ca,.slice b l.length cb] w (dM w (.bool true)):=by
 have HA:=Hq ha;have HB:=Hq hb;clear ha hb;go_in
 go_wp2_with fail;go_loopw [5] (λi wr=>∃k:Nat,k<=l.length/\i= .int .i64 k/\aH w wr) (λi _=>l.length - (intOf i).toNat)
 case atStart=>exact BP
 case round=>
  obtain⟨k,hk,rfl,hbel⟩:=hrel;have aY:=Hq hbel;clear hbel;by_cases hlt:k < l.length
  .obtain⟨g1,o1,rfl,hg1,s0⟩:=bC.one (GR.At.below HA aY) k hlt;obtain⟨g2,o2,rfl,hg2,t0⟩:=bC.one (GR.At.below HB aY) k hlt;generalize l[k]=pu at *;go_wp2_with fail;go_quiet (fail);go_wp2_with fail;go_roundw
   case rel=>exact⟨k+1,Aaa,Aaf,aY.trans ⟨rfl,rfl,rfl,aEM _,λ_ _=>rfl⟩⟩
   case measure=>simp[intOf];omega
  .exact SY
theorem adE (ca:Nat) (l:List Int) (z0:Int) (w:World) (h0:0<=z0) (h1:z0<=1048576) (hl:l.length<=maxLen):
 Calls prog 39 #[.slice a l.length ca,.int .i64 z0] w λe w'=>e= .returned (.int .i64 (if (l.length:Int)<=z0 then z0 - l.length else -1))/\w=w':=by
 unfold maxLen at hl;by_cases hc:(l.length:Int)<=z0
 .rw [aE7 hc];have hn:¬(z0 - (l.length:Int) < 0):=Aaa
  go_in
  exact OW
 .rw [aEX hc];have hn:z0 - (l.length:Int) < 0:=Aaa
  go_in
  exact OW
abbrev SentAt (w:World) (a:Option Addr) (l:List jC):Prop:=GR.At aM 4 w a l
abbrev EP (p:jC):Value:= .agg (gI p.i p.t p.k p.n)
theorem SentAt.four {a:Option Addr} {l:List jC} (h:SentAt w a l) (i:Nat) (hi:i < l.length):∃g off,a=some ⟨g,off,none⟩/\g < w.heap.size/\w.cell? ⟨g,off+i*4,none⟩=some (.int .i64 l[i].i)/\w.cell? ⟨g,off+i*4+1,none⟩=some (.int .i64 l[i].t)/\w.cell? ⟨g,off+i*4+2,none⟩=some (.string l[i].k)/\w.cell? ⟨g,off+i*4+3,none⟩=some (.int .i64 l[i].n):=by
 exact aix
abbrev lW (w:World) (g:Nat) (l:List jC):Prop:=GR.Blk aM 145 w g l
theorem lW.four {l:List jC} (h:lW w g l) (i:Nat) (hi:i < l.length):w.cell? ⟨g,i*4,none⟩=some (.int .i64 l[i].i)/\w.cell? ⟨g,i*4+1,none⟩=some (.int .i64 l[i].t)/\w.cell? ⟨g,i*4+2,none⟩=some (.string l[i].k)/\w.cell? ⟨g,i*4+3,none⟩=some (.int .i64 l[i].n):=
 ⟨by simpa using GR.Blk.cell h aR i hi 0 Aaa,by simpa using GR.Blk.cell h aR i hi 1 Aaa,by simpa using GR.Blk.cell h aR i hi 2 Aaa,by simpa using GR.Blk.cell h aR i hi 3 Aaa⟩
theorem lW.step {l:List jC} (h:lW w g l) (hb:aH w w'):lW w' g l:=by
 have hl:=GR.Blk.lt h;unfold lW GR.Blk at *;rw [hb.block g hl];exact h
theorem FT:(prog.info? 145).map (λi=>(i.zero,i.size,i.bytes))=some (some (.agg (gI 0 0 ByteArray.empty 0)),4,40):=Aab
theorem acQ (n:Nat) (hn:n<=2000000):∀W:World,(Instr.makeSlice 35 (.int .i64 (n:Int)) (.int .i64 (n:Int))).run prog W= .ok (.slice (some ⟨W.heap.size,0,none⟩) n n) (W.alloc (.cells (GR.flat aM (List.replicate n ⟨0,0,ByteArray.empty,0⟩)).toArray 145)):=by
 obtain⟨i0,hi,hz0,hz1,hz2⟩:=aFm FT;intro W;have h:=run_make (P:=prog) W 35 145 i0 (.agg (gI 0 0 ByteArray.empty 0)) underlying35 hi hz0 .i64 .i64 (n:Int) (n:Int) Aaa Aaa Abd Aaa;rw [hz1] at h;have e:=GR.made_flat aM 4 aR Aaa ⟨0,0,ByteArray.empty,0⟩ (Value.cells (.agg (gI 0 0 ByteArray.empty 0))) rfl n;exact Tf
theorem alB (p:jC) (w:World):Calls prog 101 #[EP p] w (dM w (EP p)):=by
 obtain⟨pi,pt,pk,pn⟩:=p;go_in
 go_wp2_with fail;refine aET (v:= .agg (gI pi pt pk pn)) (by simp[results,results101,go_sem]) rfl ⟨rfl,?_⟩;exact VW
theorem akC (p:jC) (w:World):Calls prog 118 #[EP p,EP p] w (dM w (.bool true)):=by
 obtain⟨pi,pt,pk,pn⟩:=p;go_in
 exact aeU
theorem NH (l:List jC) (z:jC) (k:Nat) (hk:k < l.length):(l.take k++List.replicate (l.length - k) z).set k l[k]=l.take (k+1)++List.replicate (l.length - (k+1)) z:=by
 exact abn
theorem af4 (cap:Nat) (l:List jC) (w:World) (hl:l.length<=1048576) (ha:SentAt w a l):
 Calls prog 53 #[.slice a l.length cap] w λe w'=>e= .returned (.slice (some ⟨w.heap.size,0,none⟩) l.length l.length)/\lW w' w.heap.size l/\aH w w':=by
 have hmk:=acQ l.length Aaa;have HA:=Hq ha;clear ha;go_in
 go_wp2_with fail;go_loopw [4] (λi wr=>∃k:Nat,k<=l.length/\i= .int .i64 k/\lW wr w.heap.size (l.take k++List.replicate (l.length - k) ⟨0,0,ByteArray.empty,0⟩)/\aH w wr) (λi _=>l.length - (intOf i).toNat)
 case atStart=>exact⟨0,aE1 _,rfl,by unfold lW GR.Blk;rw [aGA,aF0,Nat.sub_zero];exact aEK w _,dP w _⟩
 case round=>
  open aqg in exact SN
theorem alv (p:jC) (left:Int) (w:World) (h0:0<=left) (h1:left<=1048576) (hk:p.k.size<=maxLen):Calls prog 83 #[EP p,.int .i64 left] w λe w'=>e= .returned (.int .i64 (if (p.k.size:Int)<=left then left - p.k.size else -1))/\aH w w':=by
 obtain⟨pi,pt,pk,pn⟩:=p;dsimp only at hk ⊢;unfold maxLen at hk;by_cases hc:(pk.size:Int)<=left
 .rw [aE7 hc];have hn:¬(left - (pk.size:Int) < 0):=Aaa
  go_in
  exact XV
 .rw [aEX hc];have hn:left - (pk.size:Int) < 0:=Aaa
  go_in
  exact XV
theorem afb (a b:Option Addr) (ca cb:Nat) (l:List jC) (w:World) (hl:l.length<=1048600) (ha:SentAt w a l) (hb:SentAt w b l):
 Calls prog 67 #[.slice a l.length ca,.slice b l.length cb] w (dM w (.bool true)):=by
 have HA:=Hq ha;have HB:=Hq hb;clear ha hb;go_in
 go_wp2_with fail;go_loopw [5] (λi wr=>∃k:Nat,k<=l.length/\i= .int .i64 k/\aH w wr) (λi _=>l.length - (intOf i).toNat)
 case atStart=>exact BP
 case round=>
  obtain⟨k,hk,rfl,hbel⟩:=hrel;have aY:=Hq hbel;clear hbel;by_cases hlt:k < l.length
  .obtain⟨g1,o1,rfl,hg1,s0,s1,s2,s3⟩:=SentAt.four (GR.At.below HA aY) k hlt;obtain⟨g2,o2,rfl,hg2,t0,t1,t2,t3⟩:=SentAt.four (GR.At.below HB aY) k hlt;generalize l[k]=pu at *;have Sm:=Hq (λw1=>akC pu w1);obtain⟨pi,pt,pk,pn⟩:=pu;dsimp only at s0 s1 s2 s3 t0 t1 t2 t3;go_wp2_with fail
   go_region_held (λw'=>(w'.cell? ⟨g1,o1+k*4,none⟩=some (.int .i64 pi)/\w'.cell? ⟨g1,o1+k*4+1,none⟩=some (.int .i64 pt)/\w'.cell? ⟨g1,o1+k*4+2,none⟩=some (.string pk)/\w'.cell? ⟨g1,o1+k*4+3,none⟩=some (.int .i64 pn))/\w'.cell? ⟨g2,o2+k*4,none⟩=some (.int .i64 pi)/\w'.cell? ⟨g2,o2+k*4+1,none⟩=some (.int .i64 pt)/\w'.cell? ⟨g2,o2+k*4+2,none⟩=some (.string pk)/\w'.cell? ⟨g2,o2+k*4+3,none⟩=some (.int .i64 pn)) (go_keep)
    (first
     |(go_at_call 118;refine(Sm _).mono ?_;rintro e w5 ⟨rfl,hb5⟩;have hb6:aH wr w5:=⟨hb5.os,hb5.tape,hb5.output,hb5.size,hb5.block⟩;clear hb5;have fI:=Hq (aY.trans (hb6.mono aY.size));have y0:=(hb6.cell (p:=⟨g1,o1+k*4,none⟩) hg1).trans s0;have y1:=(hb6.cell (p:=⟨g1,o1+k*4+1,none⟩) hg1).trans s1;have y2:=(hb6.cell (p:=⟨g1,o1+k*4+2,none⟩) hg1).trans s2;have y3:=(hb6.cell (p:=⟨g1,o1+k*4+3,none⟩) hg1).trans s3;have z0:=(hb6.cell (p:=⟨g2,o2+k*4,none⟩) hg2).trans t0;have z1:=(hb6.cell (p:=⟨g2,o2+k*4+1,none⟩) hg2).trans t1;have z2:=(hb6.cell (p:=⟨g2,o2+k*4+2,none⟩) hg2).trans t2;have z3:=(hb6.cell (p:=⟨g2,o2+k*4+3,none⟩) hg2).trans t3;clear hb6))
   all_goals
    go_wp2_with fail
    go_roundw
    case rel=>exact⟨k+1,Aaa,Aaf,fI⟩
    case measure=>simp[intOf];omega
  .exact SY
theorem af0 (ca:Nat) (l:List jC) (z0:Int) (w:World) (h0:0<=z0) (h1:z0<=1048576) (hl:l.length<=maxLen) (hks:∀p∈l,p.k.size<=maxLen) (ha:SentAt w a l):
 Calls prog 41 #[.slice a l.length ca,.int .i64 z0] w λe w'=>∃r:Int,e= .returned (.int .i64 r)/\aH w w'/\(r= -1\/0<=r/\r<=1048576/\l.length<=1048576/\∀p∈l,p.k.size<=1048576):=by
 have HA:=Hq ha;clear ha;unfold maxLen at hl;by_cases hbig:(l.length:Int)<=z0
 .have hn:¬(z0 - (l.length:Int) < 0):=Aaa
  go_in
  go_wp2_with fail;go_loopw [1,5] (λlf i wr=>∃(k:Nat) (z:Int),k<=l.length/\i= .int .i64 k/\lf= .int .i64 z/\0<=z/\z<=1048576/\(∀p∈l.take k,p.k.size<=1048576)/\aH w wr) (λ_ i _=>l.length - (intOf i).toNat)
  case atStart=>exact XU
  case round=>
   open ari in exact XP
 .have hn:z0 - (l.length:Int) < 0:=Aaa
  go_in
  exact Wh
abbrev fT (w:World) (a:Option Addr) (l:List Rq):Prop:=GR.At aL 4 w a l
abbrev aaz (p:Rq):Value:= .agg (gT p.no p.k p.n p.s)
theorem fT.four {a:Option Addr} {l:List Rq} (h:fT w a l) (i:Nat) (hi:i < l.length):∃g off,a=some ⟨g,off,none⟩/\g < w.heap.size/\w.cell? ⟨g,off+i*4,none⟩=some (.int .i64 l[i].no)/\w.cell? ⟨g,off+i*4+1,none⟩=some (.string l[i].k)/\w.cell? ⟨g,off+i*4+2,none⟩=some (.int .i64 l[i].n)/\w.cell? ⟨g,off+i*4+3,none⟩=some (.int .i64 l[i].s):=by
 exact aix
abbrev qy (w:World) (g:Nat) (l:List Rq):Prop:=GR.Blk aL 148 w g l
theorem qy.four {l:List Rq} (h:qy w g l) (i:Nat) (hi:i < l.length):w.cell? ⟨g,i*4,none⟩=some (.int .i64 l[i].no)/\w.cell? ⟨g,i*4+1,none⟩=some (.string l[i].k)/\w.cell? ⟨g,i*4+2,none⟩=some (.int .i64 l[i].n)/\w.cell? ⟨g,i*4+3,none⟩=some (.int .i64 l[i].s):=
 ⟨by simpa using GR.Blk.cell h aV i hi 0 Aaa,by simpa using GR.Blk.cell h aV i hi 1 Aaa,by simpa using GR.Blk.cell h aV i hi 2 Aaa,by simpa using GR.Blk.cell h aV i hi 3 Aaa⟩
theorem qy.step {l:List Rq} (h:qy w g l) (hb:aH w w'):qy w' g l:=by
 have hl:=GR.Blk.lt h;unfold qy GR.Blk at *;rw [hb.block g hl];exact h
theorem Aq:(prog.info? 148).map (λi=>(i.zero,i.size,i.bytes))=some (some (.agg (gT 0 ByteArray.empty 0 0)),4,40):=Aab
theorem afC (n:Nat) (hn:n<=2000000):∀W:World,(Instr.makeSlice 37 (.int .i64 (n:Int)) (.int .i64 (n:Int))).run prog W= .ok (.slice (some ⟨W.heap.size,0,none⟩) n n) (W.alloc (.cells (GR.flat aL (List.replicate n ⟨0,ByteArray.empty,0,0⟩)).toArray 148)):=by
 obtain⟨i0,hi,hz0,hz1,hz2⟩:=aFm Aq;intro W;have h:=run_make (P:=prog) W 37 148 i0 (.agg (gT 0 ByteArray.empty 0 0)) underlying37 hi hz0 .i64 .i64 (n:Int) (n:Int) Aaa Aaa Abd Aaa;rw [hz1] at h;have e:=GR.made_flat aL 4 aV Aaa ⟨0,ByteArray.empty,0,0⟩ (Value.cells (.agg (gT 0 ByteArray.empty 0 0))) rfl n;exact Tf
theorem azL (p:Rq) (w:World):Calls prog 103 #[aaz p] w (dM w (aaz p)):=by
 obtain⟨pno,pk,pn,ps⟩:=p;go_in
 go_wp2_with fail;refine aET (v:= .agg (gT pno pk pn ps)) (by simp[results,results103,go_sem]) rfl ⟨rfl,?_⟩;exact VW
theorem ayc (p:Rq) (w:World):Calls prog 120 #[aaz p,aaz p] w (dM w (.bool true)):=by
 obtain⟨pno,pk,pn,ps⟩:=p;go_in
 exact aeU
theorem Ry (l:List Rq) (z:Rq) (k:Nat) (hk:k < l.length):(l.take k++List.replicate (l.length - k) z).set k l[k]=l.take (k+1)++List.replicate (l.length - (k+1)) z:=by
 exact abn
theorem alz (cap:Nat) (l:List Rq) (w:World) (hl:l.length<=1048576) (ha:fT w a l):
 Calls prog 55 #[.slice a l.length cap] w λe w'=>e= .returned (.slice (some ⟨w.heap.size,0,none⟩) l.length l.length)/\qy w' w.heap.size l/\aH w w':=by
 have hmk:=afC l.length Aaa;have HA:=Hq ha;clear ha;go_in
 go_wp2_with fail;go_loopw [4] (λi wr=>∃k:Nat,k<=l.length/\i= .int .i64 k/\qy wr w.heap.size (l.take k++List.replicate (l.length - k) ⟨0,ByteArray.empty,0,0⟩)/\aH w wr) (λi _=>l.length - (intOf i).toNat)
 case atStart=>exact⟨0,aE1 _,rfl,by unfold qy GR.Blk;rw [aGA,aF0,Nat.sub_zero];exact aEK w _,dP w _⟩
 case round=>
  open aqh in exact SN
theorem azK (p:Rq) (left:Int) (w:World) (h0:0<=left) (h1:left<=1048576) (hk:p.k.size<=maxLen):Calls prog 85 #[aaz p,.int .i64 left] w λe w'=>e= .returned (.int .i64 (if (p.k.size:Int)<=left then left - p.k.size else -1))/\aH w w':=by
 obtain⟨pno,pk,pn,ps⟩:=p;dsimp only at hk ⊢;unfold maxLen at hk;by_cases hc:(pk.size:Int)<=left
 .rw [aE7 hc];have hn:¬(left - (pk.size:Int) < 0):=Aaa
  go_in
  exact XV
 .rw [aEX hc];have hn:left - (pk.size:Int) < 0:=Aaa
  go_in
  exact XV
theorem akA (a b:Option Addr) (ca cb:Nat) (l:List Rq) (w:World) (hl:l.length<=1048600) (ha:fT w a l) (hb:fT w b l):
 Calls prog 69 #[.slice a l.length ca,.slice b l.length cb] w (dM w (.bool true)):=by
 have HA:=Hq ha;have HB:=Hq hb;clear ha hb;go_in
 go_wp2_with fail;go_loopw [5] (λi wr=>∃k:Nat,k<=l.length/\i= .int .i64 k/\aH w wr) (λi _=>l.length - (intOf i).toNat)
 case atStart=>exact BP
 case round=>
  obtain⟨k,hk,rfl,hbel⟩:=hrel;have aY:=Hq hbel;clear hbel;by_cases hlt:k < l.length
  .obtain⟨g1,o1,rfl,hg1,s0,s1,s2,s3⟩:=fT.four (GR.At.below HA aY) k hlt;obtain⟨g2,o2,rfl,hg2,t0,t1,t2,t3⟩:=fT.four (GR.At.below HB aY) k hlt;generalize l[k]=pu at *;have Sm:=Hq (λw1=>ayc pu w1);obtain⟨pno,pk,pn,ps⟩:=pu;dsimp only at s0 s1 s2 s3 t0 t1 t2 t3;go_wp2_with fail
   go_region_held (λw'=>(w'.cell? ⟨g1,o1+k*4,none⟩=some (.int .i64 pno)/\w'.cell? ⟨g1,o1+k*4+1,none⟩=some (.string pk)/\w'.cell? ⟨g1,o1+k*4+2,none⟩=some (.int .i64 pn)/\w'.cell? ⟨g1,o1+k*4+3,none⟩=some (.int .i64 ps))/\w'.cell? ⟨g2,o2+k*4,none⟩=some (.int .i64 pno)/\w'.cell? ⟨g2,o2+k*4+1,none⟩=some (.string pk)/\w'.cell? ⟨g2,o2+k*4+2,none⟩=some (.int .i64 pn)/\w'.cell? ⟨g2,o2+k*4+3,none⟩=some (.int .i64 ps)) (go_keep)
    (first
     |(go_at_call 120;refine(Sm _).mono ?_;rintro e w5 ⟨rfl,hb5⟩;have hb6:aH wr w5:=⟨hb5.os,hb5.tape,hb5.output,hb5.size,hb5.block⟩;clear hb5;have fI:=Hq (aY.trans (hb6.mono aY.size));have y0:=(hb6.cell (p:=⟨g1,o1+k*4,none⟩) hg1).trans s0;have y1:=(hb6.cell (p:=⟨g1,o1+k*4+1,none⟩) hg1).trans s1;have y2:=(hb6.cell (p:=⟨g1,o1+k*4+2,none⟩) hg1).trans s2;have y3:=(hb6.cell (p:=⟨g1,o1+k*4+3,none⟩) hg1).trans s3;have z0:=(hb6.cell (p:=⟨g2,o2+k*4,none⟩) hg2).trans t0;have z1:=(hb6.cell (p:=⟨g2,o2+k*4+1,none⟩) hg2).trans t1;have z2:=(hb6.cell (p:=⟨g2,o2+k*4+2,none⟩) hg2).trans t2;have z3:=(hb6.cell (p:=⟨g2,o2+k*4+3,none⟩) hg2).trans t3;clear hb6))
   all_goals
    go_wp2_with fail
    go_roundw
    case rel=>exact⟨k+1,Aaa,Aaf,fI⟩
    case measure=>simp[intOf];omega
  .exact SY
theorem als (ca:Nat) (l:List Rq) (z0:Int) (w:World) (h0:0<=z0) (h1:z0<=1048576) (hl:l.length<=maxLen) (hks:∀p∈l,p.k.size<=maxLen) (ha:fT w a l):
 Calls prog 43 #[.slice a l.length ca,.int .i64 z0] w λe w'=>∃r:Int,e= .returned (.int .i64 r)/\aH w w'/\(r= -1\/0<=r/\r<=1048576/\l.length<=1048576/\∀p∈l,p.k.size<=1048576):=by
 have HA:=Hq ha;clear ha;unfold maxLen at hl;by_cases hbig:(l.length:Int)<=z0
 .have hn:¬(z0 - (l.length:Int) < 0):=Aaa
  go_in
  go_wp2_with fail;go_loopw [1,5] (λlf i wr=>∃(k:Nat) (z:Int),k<=l.length/\i= .int .i64 k/\lf= .int .i64 z/\0<=z/\z<=1048576/\(∀p∈l.take k,p.k.size<=1048576)/\aH w wr) (λ_ i _=>l.length - (intOf i).toNat)
  case atStart=>exact XU
  case round=>
   open arj in exact XP
 .have hn:z0 - (l.length:Int) < 0:=Aaa
  go_in
  exact Wh
def xV (w:World) (a:Option Addr) (g:Nat) (l:List Pu):Prop:=∀i (hi:i < l.length),a=some ⟨g,0,none⟩/\g < w.heap.size/\∀j,j < 4->w.cell? ⟨g,i*4+j,none⟩=(fu l[i])[j]?/\w.frozen? ⟨g,i*4+j,none⟩=false
theorem xV.at {a:Option Addr} (h:xV w a g l):aG w a l:=λi hi=>
 ⟨g,0,(h i hi).1,(h i hi).2.1,λj hj=>by rw [aFz];exact((h i hi).2.2 j hj).1⟩
theorem xV.of_blk (h:tC w g l):xV w (some ⟨g,0,none⟩) g l:=λi hi=>
 ⟨rfl,GR.Blk.lt h,λj hj=>⟨GR.Blk.cell h aP i hi j hj,GR.Blk.free h _⟩⟩
theorem xV.nil {a:Option Addr}:xV w a g []:=λi hi=>by simp at hi
theorem xV.below {a:Option Addr} (h:xV w a g l) (hb:aH w w'):xV w' a g l:=λi hi=>by
 obtain⟨e,hg,hc⟩:=h i hi;exact⟨e,aEU hg hb.size,λj hj=>⟨(hb.cell (p:=⟨g,i*4+j,none⟩) hg).trans (hc j hj).1,(hb.frozen (p:=⟨g,i*4+j,none⟩) hg).trans (hc j hj).2⟩⟩
theorem xV.keeps {a:Option Addr} {g':Nat} (h:xV w a g l) (hk:Keeps g' w w') (hne:l=[]\/g≠g'):xV w' a g l:=by
 rcases hne with rfl|hne
 .exact xV.nil
 .intro i hi;obtain⟨e,hg,hc⟩:=h i hi;exact ahU
theorem xV.four {a:Option Addr} (h:xV w a g l) (i:Nat) (hi:i < l.length):a=some ⟨g,0,none⟩/\g < w.heap.size/\(w.cell? ⟨g,i*4,none⟩=some (.string l[i].k)/\w.cell? ⟨g,i*4+1,none⟩=some (.int .i64 l[i].m)/\w.cell? ⟨g,i*4+2,none⟩=some (.int .i64 l[i].f)/\w.cell? ⟨g,i*4+3,none⟩=some (.int .i64 l[i].s))/\w.frozen? ⟨g,i*4,none⟩=false/\w.frozen? ⟨g,i*4+1,none⟩=false/\w.frozen? ⟨g,i*4+2,none⟩=false/\w.frozen? ⟨g,i*4+3,none⟩=false:=by
 exact aeM
theorem vM:∀(vs:List Value) (w:World) (o:Nat),k < o\/o+vs.length<=k->(GR.setW w g o vs).cell? ⟨g,k,none⟩=w.cell? ⟨g,k,none⟩:=by
 exact ahJ
theorem Gs {g:Nat}:∀(vs:List Value) (w:World) (o:Nat),(∀j,j < vs.length->∃v,w.cell? ⟨g,o+j,none⟩=some v)->∀j,j < vs.length->(GR.setW w g o vs).cell? ⟨g,o+j,none⟩=vs[j]?:=by
 intro vs;induction vs with
 |nil=>intro w o _ j hj;simp at hj
 |cons v vs ih=>
  intro w o h j hj;cases j with
  |zero=>
   obtain⟨v0,hv0⟩:=h 0 Aac;rw [aGw] at hv0 ⊢;refine(vM vs (w.setCell ⟨g,o,none⟩ v) (o+1) Aaa).trans ?_;rw [aGv _ _ _ hv0];rfl
  |succ j=>
   exact ax2
theorem Q6:∀(vs:List Value) (w:World) (o:Nat),(GR.setW w g o vs).frozen? ⟨g,k,none⟩=w.frozen? ⟨g,k,none⟩:=by
 exact aib
theorem Zu:∀(vs:List Value) (w:World) (o:Nat),(GR.setW w g o vs).heap.size=w.heap.size:=by
 exact aif
theorem xV.set {a:Option Addr} (h:xV w a g l) (k:Nat) (x:Pu) (hk:k < l.length):xV (GR.setW w g (k*4) (fu x)) a g (l.set k x):=λi hi=>by
 have hi':i < l.length:=Aas
 obtain⟨e,hg,hc⟩:=h i hi';refine⟨e,by rw [Zu];exact hg,λj hj=>⟨?_,by rw [Q6];exact(hc j hj).2⟩⟩;by_cases hik:i=k
 .subst hik
  rw [Gs (fu x) w (i*4) (λj' hj'=>by
   have hj4:j' < 4:=by rw [aP] at hj';exact hj'
   have h1:=(hc j' hj4).1
   rw [aEQ (by rw [aP];exact hj4)] at h1
   exact⟨_,h1⟩) j (by rw [aP];exact hj)]
  simp
 .rw [vM (fu x) w (k*4) (by rw [aP];omega),(hc j hj).1,aFj Aaa]
end Go.Proofs.YtbolgdleijjgfaaGreatDoor
