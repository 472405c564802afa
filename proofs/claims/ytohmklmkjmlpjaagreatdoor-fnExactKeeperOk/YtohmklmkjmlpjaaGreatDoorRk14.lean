/- Parts. -/
import Derived.Test.YtohmklmkjmlpjaaGreatDoorRk7
import Derived.Test.YtohmklmkjmlpjaaGreatDoorRk12
namespace Go.Proofs.YtohmklmkjmlpjaaGreatDoor
open Go.Proofs.Tryz
set_option maxHeartbeats 2000000
set_option maxRecDepth 100000
open Go.RowKit
open Mth
variable {w w':World} {g:Nat} {l:List Int} {a:Option Addr}
abbrev bZ (w:World) (a:Option Addr) (l:List Int):Prop:=GR.At bf 1 w a l
theorem bZ.one (h:bZ w a l) (i:Nat) (hi:i < l.length):∃g off,a=some ⟨g,off,none⟩/\g < w.heap.size/\w.cell? ⟨g,off+i,none⟩=some (.int .i64 l[i]):=by
 obtain⟨g,off,e,hg,hc⟩:=h i hi;refine⟨g,off,e,hg,?_⟩;simpa using hc 0 Aaa
abbrev lX (w:World) (g:Nat) (l:List Int):Prop:=GR.Blk bf 3 w g l
theorem lX.one (h:lX w g l) (i:Nat) (hi:i < l.length):w.cell? ⟨g,i,none⟩=some (.int .i64 l[i]):=by
 simpa using GR.Blk.cell h aX i hi 0 Aaa
theorem lX.step (h:lX w g l) (hb:aI w w'):lX w' g l:=by
 have hl:=GR.Blk.lt h;unfold lX GR.Blk at *;rw [hb.block g hl];exact h
theorem wC:(prog.info? 3).map (λi=>(i.zero,i.size,i.bytes))=some (some (.int .i64 0),1,8):=Aab
theorem acH (n:Nat) (hn:n<=2000000):∀W:World,(Instr.makeSlice 22 (.int .i64 (n:Int)) (.int .i64 (n:Int))).run prog W= .ok (.slice (some ⟨W.heap.size,0,none⟩) n n) (W.alloc (.cells (GR.flat bf (List.replicate n 0)).toArray 3)):=by
 obtain⟨i0,hi,hz0,hz1,hz2⟩:=info_parts wC;intro W;have h:=run_make (P:=prog) W 22 3 i0 (.int .i64 0) underlying22 hi hz0 .i64 .i64 (n:Int) (n:Int) Aaa Aaa Abc Aaa;rw [hz1] at h;have e:=GR.made_flat bf 1 aX Aaa 0 (Value.cells (.int .i64 0)) rfl n;exact En
theorem YT (l:List Int) (z:Int) (k:Nat) (hk:k < l.length):(l.take k++List.replicate (l.length - k) z).set k l[k]=l.take (k+1)++List.replicate (l.length - (k+1)) z:=by
 exact abj
theorem adw (a:Option Addr) (cap:Nat) (l:List Int) (w:World) (hl:l.length<=1048576) (ha:bZ w a l):
 Calls prog 59 #[.slice a l.length cap] w λe w'=>e= .returned (.slice (some ⟨w.heap.size,0,none⟩) l.length l.length)/\lX w' w.heap.size l/\aI w w':=by
 have hmk:=acH l.length Aaa;have HA:=Hq ha;clear ha;go_in
 go_wp2_with fail;go_loopw [4] (λi wr=>∃k:Nat,k<=l.length/\i= .int .i64 k/\lX wr w.heap.size (l.take k++List.replicate (l.length - k) 0)/\aI w wr) (λi _=>l.length - (intOf i).toNat)
 case atStart=>exact⟨0,Nat.zero_le _,rfl,by unfold lX GR.Blk;rw [List.take_zero,List.nil_append,Nat.sub_zero];exact heap_alloc_new w _,dU w _⟩
 case round=>
  open asT in exact El
theorem aby (a b:Option Addr) (ca cb:Nat) (l:List Int) (w:World) (hl:l.length<=1048600) (ha:bZ w a l) (hb:bZ w b l):
 Calls prog 73 #[.slice a l.length ca,.slice b l.length cb] w (eO w (.bool true)):=by
 have HA:=Hq ha;have HB:=Hq hb;clear ha hb;go_in
 go_wp2_with fail;go_loopw [5] (λi wr=>∃k:Nat,k<=l.length/\i= .int .i64 k/\aI w wr) (λi _=>l.length - (intOf i).toNat)
 case atStart=>exact AZ
 case round=>
  obtain⟨k,hk,rfl,hbel⟩:=hrel;have cZ:=Hq hbel;clear hbel;by_cases hlt:k < l.length
  .obtain⟨g1,o1,rfl,hg1,s0⟩:=bZ.one (GR.At.below HA cZ) k hlt;obtain⟨g2,o2,rfl,hg2,t0⟩:=bZ.one (GR.At.below HB cZ) k hlt;generalize l[k]=pu at *;go_wp2_with fail;go_quiet (fail);go_wp2_with fail;go_roundw
   case rel=>exact⟨k+1,Aaa,Aah,cZ.trans ⟨rfl,rfl,rfl,Nat.le_refl _,λ_ _=>rfl⟩⟩
   case measure=>simp[intOf];omega
  .exact Sk
theorem ads (a:Option Addr) (ca:Nat) (l:List Int) (z0:Int) (w:World) (h0:0<=z0) (h1:z0<=1048576) (hl:l.length<=maxLen):
 Calls prog 39 #[.slice a l.length ca,.int .i64 z0] w λe w'=>e= .returned (.int .i64 (if (l.length:Int)<=z0 then z0 - l.length else -1))/\w=w':=by
 unfold maxLen at hl;by_cases hc:(l.length:Int)<=z0
 .rw [if_pos hc];have hn:¬(z0 - (l.length:Int) < 0):=Aaa
  go_in
  exact Oz
 .rw [if_neg hc];have hn:z0 - (l.length:Int) < 0:=Aaa
  go_in
  exact Oz
abbrev SentAt (w:World) (a:Option Addr) (l:List jw):Prop:=GR.At aV 4 w a l
abbrev Ej (p:jw):Value:= .agg (fA p.i p.t p.k p.n)
theorem SentAt.four {l:List jw} (h:SentAt w a l) (i:Nat) (hi:i < l.length):∃g off,a=some ⟨g,off,none⟩/\g < w.heap.size/\w.cell? ⟨g,off+i*4,none⟩=some (.int .i64 l[i].i)/\w.cell? ⟨g,off+i*4+1,none⟩=some (.int .i64 l[i].t)/\w.cell? ⟨g,off+i*4+2,none⟩=some (.string l[i].k)/\w.cell? ⟨g,off+i*4+3,none⟩=some (.int .i64 l[i].n):=by
 exact ak5
abbrev lU (w:World) (g:Nat) (l:List jw):Prop:=GR.Blk aV 91 w g l
theorem lU.four {l:List jw} (h:lU w g l) (i:Nat) (hi:i < l.length):w.cell? ⟨g,i*4,none⟩=some (.int .i64 l[i].i)/\w.cell? ⟨g,i*4+1,none⟩=some (.int .i64 l[i].t)/\w.cell? ⟨g,i*4+2,none⟩=some (.string l[i].k)/\w.cell? ⟨g,i*4+3,none⟩=some (.int .i64 l[i].n):=
 ⟨by simpa using GR.Blk.cell h bQ i hi 0 Aaa,by simpa using GR.Blk.cell h bQ i hi 1 Aaa,by simpa using GR.Blk.cell h bQ i hi 2 Aaa,by simpa using GR.Blk.cell h bQ i hi 3 Aaa⟩
theorem lU.step {l:List jw} (h:lU w g l) (hb:aI w w'):lU w' g l:=by
 have hl:=GR.Blk.lt h;unfold lU GR.Blk at *;rw [hb.block g hl];exact h
theorem EW:(prog.info? 91).map (λi=>(i.zero,i.size,i.bytes))=some (some (.agg (fA 0 0 ByteArray.empty 0)),4,40):=Aab
theorem acK (n:Nat) (hn:n<=2000000):∀W:World,(Instr.makeSlice 36 (.int .i64 (n:Int)) (.int .i64 (n:Int))).run prog W= .ok (.slice (some ⟨W.heap.size,0,none⟩) n n) (W.alloc (.cells (GR.flat aV (List.replicate n ⟨0,0,ByteArray.empty,0⟩)).toArray 91)):=by
 obtain⟨i0,hi,hz0,hz1,hz2⟩:=info_parts EW;intro W;have h:=run_make (P:=prog) W 36 91 i0 (.agg (fA 0 0 ByteArray.empty 0)) underlying36 hi hz0 .i64 .i64 (n:Int) (n:Int) Aaa Aaa Abc Aaa;rw [hz1] at h;have e:=GR.made_flat aV 4 bQ Aaa ⟨0,0,ByteArray.empty,0⟩ (Value.cells (.agg (fA 0 0 ByteArray.empty 0))) rfl n;exact En
theorem amd (p:jw) (w:World):Calls prog 113 #[Ej p] w (eO w (Ej p)):=by
 obtain⟨pi,pt,pk,pn⟩:=p;go_in
 go_wp2_with fail;refine bodyPost_ret (v:= .agg (fA pi pt pk pn)) (by simp[results,results113,go_sem]) rfl ⟨rfl,?_⟩;exact Vu
theorem alk (p:jw) (w:World):Calls prog 130 #[Ej p,Ej p] w (eO w (.bool true)):=by
 obtain⟨pi,pt,pk,pn⟩:=p;go_in
 exact Vt
theorem M4 (l:List jw) (z:jw) (k:Nat) (hk:k < l.length):(l.take k++List.replicate (l.length - k) z).set k l[k]=l.take (k+1)++List.replicate (l.length - (k+1)) z:=by
 exact abj
theorem afP (a:Option Addr) (cap:Nat) (l:List jw) (w:World) (hl:l.length<=1048576) (ha:SentAt w a l):
 Calls prog 61 #[.slice a l.length cap] w λe w'=>e= .returned (.slice (some ⟨w.heap.size,0,none⟩) l.length l.length)/\lU w' w.heap.size l/\aI w w':=by
 have hmk:=acK l.length Aaa;have HA:=Hq ha;clear ha;go_in
 go_wp2_with fail;go_loopw [4] (λi wr=>∃k:Nat,k<=l.length/\i= .int .i64 k/\lU wr w.heap.size (l.take k++List.replicate (l.length - k) ⟨0,0,ByteArray.empty,0⟩)/\aI w wr) (λi _=>l.length - (intOf i).toNat)
 case atStart=>exact⟨0,Nat.zero_le _,rfl,by unfold lU GR.Blk;rw [List.take_zero,List.nil_append,Nat.sub_zero];exact heap_alloc_new w _,dU w _⟩
 case round=>
  open asU in exact El
theorem al8 (p:jw) (left:Int) (w:World) (h0:0<=left) (h1:left<=1048576) (hk:p.k.size<=maxLen):Calls prog 96 #[Ej p,.int .i64 left] w λe w'=>e= .returned (.int .i64 (if (p.k.size:Int)<=left then left - p.k.size else -1))/\aI w w':=by
 obtain⟨pi,pt,pk,pn⟩:=p;dsimp only at hk ⊢;unfold maxLen at hk;by_cases hc:(pk.size:Int)<=left
 .rw [if_pos hc];have hn:¬(left - (pk.size:Int) < 0):=Aaa
  go_in
  exact Xd
 .rw [if_neg hc];have hn:left - (pk.size:Int) < 0:=Aaa
  go_in
  exact Xd
theorem aeY (a b:Option Addr) (ca cb:Nat) (l:List jw) (w:World) (hl:l.length<=1048600) (ha:SentAt w a l) (hb:SentAt w b l):
 Calls prog 75 #[.slice a l.length ca,.slice b l.length cb] w (eO w (.bool true)):=by
 have HA:=Hq ha;have HB:=Hq hb;clear ha hb;go_in
 go_wp2_with fail;go_loopw [5] (λi wr=>∃k:Nat,k<=l.length/\i= .int .i64 k/\aI w wr) (λi _=>l.length - (intOf i).toNat)
 case atStart=>exact AZ
 case round=>
  obtain⟨k,hk,rfl,hbel⟩:=hrel;have cZ:=Hq hbel;clear hbel;by_cases hlt:k < l.length
  .obtain⟨g1,o1,rfl,hg1,s0,s1,s2,s3⟩:=SentAt.four (GR.At.below HA cZ) k hlt;obtain⟨g2,o2,rfl,hg2,t0,t1,t2,t3⟩:=SentAt.four (GR.At.below HB cZ) k hlt;generalize l[k]=pu at *;have UJ:=Hq (λw1=>alk pu w1);obtain⟨pi,pt,pk,pn⟩:=pu;dsimp only at s0 s1 s2 s3 t0 t1 t2 t3;go_wp2_with fail
   go_region_held (λw'=>(w'.cell? ⟨g1,o1+k*4,none⟩=some (.int .i64 pi)/\w'.cell? ⟨g1,o1+k*4+1,none⟩=some (.int .i64 pt)/\w'.cell? ⟨g1,o1+k*4+2,none⟩=some (.string pk)/\w'.cell? ⟨g1,o1+k*4+3,none⟩=some (.int .i64 pn))/\w'.cell? ⟨g2,o2+k*4,none⟩=some (.int .i64 pi)/\w'.cell? ⟨g2,o2+k*4+1,none⟩=some (.int .i64 pt)/\w'.cell? ⟨g2,o2+k*4+2,none⟩=some (.string pk)/\w'.cell? ⟨g2,o2+k*4+3,none⟩=some (.int .i64 pn)) (go_keep)
    (first
     |(go_at_call 130;refine(UJ _).mono ?_;rintro e w5 ⟨rfl,hb5⟩;have hb6:aI wr w5:=⟨hb5.os,hb5.tape,hb5.output,hb5.size,hb5.block⟩;clear hb5;have fO:=Hq (cZ.trans (hb6.mono cZ.size));have y0:=(hb6.cell (p:=⟨g1,o1+k*4,none⟩) hg1).trans s0;have y1:=(hb6.cell (p:=⟨g1,o1+k*4+1,none⟩) hg1).trans s1;have y2:=(hb6.cell (p:=⟨g1,o1+k*4+2,none⟩) hg1).trans s2;have y3:=(hb6.cell (p:=⟨g1,o1+k*4+3,none⟩) hg1).trans s3;have z0:=(hb6.cell (p:=⟨g2,o2+k*4,none⟩) hg2).trans t0;have z1:=(hb6.cell (p:=⟨g2,o2+k*4+1,none⟩) hg2).trans t1;have z2:=(hb6.cell (p:=⟨g2,o2+k*4+2,none⟩) hg2).trans t2;have z3:=(hb6.cell (p:=⟨g2,o2+k*4+3,none⟩) hg2).trans t3;clear hb6))
   all_goals
    go_wp2_with fail
    go_roundw
    case rel=>exact⟨k+1,Aaa,Aah,fO⟩
    case measure=>simp[intOf];omega
  .exact Sk
theorem afM (a:Option Addr) (ca:Nat) (l:List jw) (z0:Int) (w:World) (h0:0<=z0) (h1:z0<=1048576) (hl:l.length<=maxLen) (hks:∀p∈l,p.k.size<=maxLen) (ha:SentAt w a l):
 Calls prog 41 #[.slice a l.length ca,.int .i64 z0] w λe w'=>∃r:Int,e= .returned (.int .i64 r)/\aI w w'/\(r= -1\/0<=r/\r<=1048576/\l.length<=1048576/\∀p∈l,p.k.size<=1048576):=by
 have HA:=Hq ha;clear ha;unfold maxLen at hl;by_cases hbig:(l.length:Int)<=z0
 .have hn:¬(z0 - (l.length:Int) < 0):=Aaa
  go_in
  go_wp2_with fail;go_loopw [1,5] (λlf i wr=>∃(k:Nat) (z:Int),k<=l.length/\i= .int .i64 k/\lf= .int .i64 z/\0<=z/\z<=1048576/\(∀p∈l.take k,p.k.size<=1048576)/\aI w wr) (λ_ i _=>l.length - (intOf i).toNat)
  case atStart=>exact Xc
  case round=>
   open auk in exact Jf
 .have hn:z0 - (l.length:Int) < 0:=Aaa
  go_in
  exact Vx
end Go.Proofs.YtohmklmkjmlpjaaGreatDoor
