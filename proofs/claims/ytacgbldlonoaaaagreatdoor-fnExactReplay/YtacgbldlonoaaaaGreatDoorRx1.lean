/- Parts. -/
import Derived.Test.YtacgbldlonoaaaaGreatDoorRxZ1
import Derived.Test.YtacgbldlonoaaaaGreatDoorRr15
namespace Go.Proofs.YtacgbldlonoaaaaGreatDoor
set_option maxHeartbeats 2000000
open Go.RowKit
theorem ayP {a b:ByteArray} (h:a=b):Ending.returned (.string a)= .returned (.string b):=by rw [h]
set_option maxRecDepth 100000
open Mth
theorem aAu (p:Pu) (w:World):Calls Tryz.prog 150 #[zi p] w (eP w (zi p)):=by
 obtain⟨k,m,f,s⟩:=p;go_enter Tryz.func150,Tryz.ntmps150
 go_wp2_with fail;refine bodyPost_ret (v:= .agg (iL k m f s)) (by simp[results,Tryz.results150,go_sem]) rfl ⟨rfl,?_⟩;exact aAH
theorem aAb (p:Pu) (w:World):Calls Tryz.prog 154 #[zi p,zi p] w (eP w (.bool true)):=by
 obtain⟨k,m,f,s⟩:=p;go_enter Tryz.func154,Tryz.ntmps154
 exact aAG
theorem azZ (a:Option Addr) (cap:Nat) (l:List Pu) (w:World) (hl:l.length<=1048576) (ha:aH w a l):
 Calls Tryz.prog 79 #[.slice a l.length cap] w λe w'=>e= .returned (.slice (some ⟨w.heap.size,0,none⟩) l.length l.length)/\uH w' w.heap.size l/\aX w w':=by
 have hmk:=Nh l.length Aaa;have HA:=Hq ha;clear ha;go_enter Tryz.func79,Tryz.ntmps79
 go_wp2_with fail;go_loopw [4] (λi wr=>∃k:Nat,k<=l.length/\i= .int .i64 k/\uH wr w.heap.size (l.take k++List.replicate (l.length - k) ⟨ByteArray.empty,0,0,0⟩)/\aX w wr) (λi _=>l.length - (intOf i).toNat)
 case atStart=>exact⟨0,Nat.zero_le _,rfl,by unfold uH GR.Blk;rw [List.take_zero,List.nil_append,Nat.sub_zero];exact heap_alloc_new w _,dM w _⟩
 case round=>
  open aCh in exact az6
theorem aAr (p:Pu) (left:Int) (w:World) (h0:0<=left) (h1:left<=1048576) (hk:p.k.size<=maxLen):Calls Tryz.prog 146 #[zi p,.int .i64 left] w (eP w (.int .i64 (if (p.k.size:Int)<=left then left - p.k.size else -1))):=by
 obtain⟨k,m,f,s⟩:=p;dsimp only at hk ⊢;unfold maxLen at hk;by_cases hc:(k.size:Int)<=left
 .rw [if_pos hc];have hn:¬(left - (k.size:Int) < 0):=Aaa
  go_enter Tryz.func146,Tryz.ntmps146
  exact Zx8
 .rw [if_neg hc];have hn:left - (k.size:Int) < 0:=Aaa
  go_enter Tryz.func146,Tryz.ntmps146
  exact Zx8
theorem azD (a b:Option Addr) (ca cb:Nat) (l:List Pu) (w:World) (hl:l.length<=1048600) (ha:aH w a l) (hb:aH w b l):
 Calls Tryz.prog 84 #[.slice a l.length ca,.slice b l.length cb] w (eP w (.bool true)):=by
 have HA:=Hq ha;have HB:=Hq hb;clear ha hb;go_enter Tryz.func84,Tryz.ntmps84
 go_wp2_with fail;go_loopw [5] (λi wr=>∃k:Nat,k<=l.length/\i= .int .i64 k/\aX w wr) (λi _=>l.length - (intOf i).toNat)
 case atStart=>exact azx
 case round=>
  obtain⟨k,hk,rfl,hbel⟩:=hrel;have fO:=Hq hbel;clear hbel;by_cases hlt:k < l.length
  .obtain⟨g1,o1,rfl,hg1,s0,s1,s2,s3⟩:=aH.four (GR.At.below HA fO) k hlt;obtain⟨g2,o2,rfl,hg2,t0,t1,t2,t3⟩:=aH.four (GR.At.below HB fO) k hlt;generalize l[k]=pu at *;have HEQ:=Hq (λw1=>aAb pu w1);obtain⟨pk,pm,pf,ps⟩:=pu;dsimp only at s0 s1 s2 s3 t0 t1 t2 t3;go_wp2_with fail
   go_region_held (λw'=>(w'.cell? ⟨g1,o1+k*4,none⟩=some (.string pk)/\w'.cell? ⟨g1,o1+k*4+1,none⟩=some (.int .i64 pm)/\w'.cell? ⟨g1,o1+k*4+2,none⟩=some (.int .i64 pf)/\w'.cell? ⟨g1,o1+k*4+3,none⟩=some (.int .i64 ps))/\w'.cell? ⟨g2,o2+k*4,none⟩=some (.string pk)/\w'.cell? ⟨g2,o2+k*4+1,none⟩=some (.int .i64 pm)/\w'.cell? ⟨g2,o2+k*4+2,none⟩=some (.int .i64 pf)/\w'.cell? ⟨g2,o2+k*4+3,none⟩=some (.int .i64 ps)) (go_keep)
    (first
     |(go_at_call 154;refine(HEQ _).mono ?_;rintro e w5 ⟨rfl,hb5⟩;have hb6:aX wr w5:=⟨hb5.os,hb5.tape,hb5.output,hb5.size,hb5.block⟩;clear hb5;have lT:=Hq (fO.trans (hb6.mono fO.size));have y0:=(hb6.cell (p:=⟨g1,o1+k*4,none⟩) hg1).trans s0;have y1:=(hb6.cell (p:=⟨g1,o1+k*4+1,none⟩) hg1).trans s1;have y2:=(hb6.cell (p:=⟨g1,o1+k*4+2,none⟩) hg1).trans s2;have y3:=(hb6.cell (p:=⟨g1,o1+k*4+3,none⟩) hg1).trans s3;have z0:=(hb6.cell (p:=⟨g2,o2+k*4,none⟩) hg2).trans t0;have z1:=(hb6.cell (p:=⟨g2,o2+k*4+1,none⟩) hg2).trans t1;have z2:=(hb6.cell (p:=⟨g2,o2+k*4+2,none⟩) hg2).trans t2;have z3:=(hb6.cell (p:=⟨g2,o2+k*4+3,none⟩) hg2).trans t3;clear hb6))
   all_goals
    go_wp2_with fail
    go_roundw
    case rel=>exact⟨k+1,Aaa,Aai,lT⟩
    case measure=>simp[intOf];omega
  .exact Zx4
theorem azo (a:Option Addr) (ca:Nat) (l:List Pu) (z0:Int) (w:World) (h0:0<=z0) (h1:z0<=1048576) (hl:l.length<=maxLen) (hks:∀p∈l,p.k.size<=maxLen) (ha:aH w a l):
 Calls Tryz.prog 74 #[.slice a l.length ca,.int .i64 z0] w λe w'=>∃r:Int,e= .returned (.int .i64 r)/\aX w w'/\(r= -1\/0<=r/\r<=1048576/\l.length<=1048576/\∀p∈l,p.k.size<=1048576):=by
 have HA:=Hq ha;clear ha;unfold maxLen at hl;by_cases hbig:(l.length:Int)<=z0
 .have hn:¬(z0 - (l.length:Int) < 0):=Aaa
  go_enter Tryz.func74,Tryz.ntmps74
  go_wp2_with fail;go_loopw [1,5] (λlf i wr=>∃(k:Nat) (z:Int),k<=l.length/\i= .int .i64 k/\lf= .int .i64 z/\0<=z/\z<=1048576/\(∀p∈l.take k,p.k.size<=1048576)/\aX w wr) (λ_ i _=>l.length - (intOf i).toNat)
  case atStart=>exact Zx9
  case round=>
   open aCd in exact Yx9
 .have hn:z0 - (l.length:Int) < 0:=Aaa
  go_enter Tryz.func74,Tryz.ntmps74
  exact az8
theorem azN (n:Nat) (hn:n<=2000000):∀W:World,(Instr.makeSlice 24 (.int .i64 (n:Int)) (.int .i64 (n:Int))).run Tryz.prog W= .ok (.slice (some ⟨W.heap.size,0,none⟩) n n) (W.alloc (.cells (GR.flat aW (List.replicate n 0)).toArray 3)):=by
 obtain⟨i0,hi,hz0,hz1,hz2⟩:=info_parts yc;intro W;have h:=run_make (P:=Tryz.prog) W 24 3 i0 (.int .i64 0) Tryz.underlying24 hi hz0 .i64 .i64 (n:Int) (n:Int) Aaa Aaa (by rw [hz2];omega) Aaa;rw [hz1] at h;have e:=GR.made_flat aW 1 aQ Aaa 0 (Value.cells (.int .i64 0)) rfl n;exact az9
theorem azp (l:List Int) (z:Int) (k:Nat) (hk:k < l.length):(l.take k++List.replicate (l.length - k) z).set k l[k]=l.take (k+1)++List.replicate (l.length - (k+1)) z:=by
 exact Zx7
theorem azY (a:Option Addr) (cap:Nat) (l:List Int) (w:World) (hl:l.length<=1048576) (ha:eu w a l):
 Calls Tryz.prog 78 #[.slice a l.length cap] w λe w'=>e= .returned (.slice (some ⟨w.heap.size,0,none⟩) l.length l.length)/\wI w' w.heap.size l/\aX w w':=by
 have hmk:=azN l.length Aaa;have HA:=Hq ha;clear ha;go_enter Tryz.func78,Tryz.ntmps78
 go_wp2_with fail;go_loopw [4] (λi wr=>∃k:Nat,k<=l.length/\i= .int .i64 k/\wI wr w.heap.size (l.take k++List.replicate (l.length - k) 0)/\aX w wr) (λi _=>l.length - (intOf i).toNat)
 case atStart=>exact⟨0,Nat.zero_le _,rfl,by unfold wI GR.Blk;rw [List.take_zero,List.nil_append,Nat.sub_zero];exact heap_alloc_new w _,dM w _⟩
 case round=>
  open aCi in exact az6
theorem azC (a b:Option Addr) (ca cb:Nat) (l:List Int) (w:World) (hl:l.length<=1048600) (ha:eu w a l) (hb:eu w b l):
 Calls Tryz.prog 83 #[.slice a l.length ca,.slice b l.length cb] w (eP w (.bool true)):=by
 have HA:=Hq ha;have HB:=Hq hb;clear ha hb;go_enter Tryz.func83,Tryz.ntmps83
 go_wp2_with fail;go_loopw [5] (λi wr=>∃k:Nat,k<=l.length/\i= .int .i64 k/\aX w wr) (λi _=>l.length - (intOf i).toNat)
 case atStart=>exact azx
 case round=>
  obtain⟨k,hk,rfl,hbel⟩:=hrel;have fO:=Hq hbel;clear hbel;by_cases hlt:k < l.length
  .obtain⟨g1,o1,rfl,hg1,s0⟩:=eu.one (GR.At.below HA fO) k hlt;obtain⟨g2,o2,rfl,hg2,t0⟩:=eu.one (GR.At.below HB fO) k hlt;generalize l[k]=pu at *;go_wp2_with fail;go_quiet (fail);go_wp2_with fail;go_roundw
   case rel=>exact⟨k+1,Aaa,Aai,fO.trans ⟨rfl,rfl,rfl,Nat.le_refl _,λ_ _=>rfl⟩⟩
   case measure=>simp[intOf];omega
  .exact Zx4
theorem azX (a:Option Addr) (ca:Nat) (l:List Int) (z0:Int) (w:World) (h0:0<=z0) (h1:z0<=1048576) (hl:l.length<=maxLen):
 Calls Tryz.prog 73 #[.slice a l.length ca,.int .i64 z0] w λe w'=>e= .returned (.int .i64 (if (l.length:Int)<=z0 then z0 - l.length else -1))/\w=w':=by
 unfold maxLen at hl;by_cases hc:(l.length:Int)<=z0
 .rw [if_pos hc];have hn:¬(z0 - (l.length:Int) < 0):=Aaa
  exact aBs
 .rw [if_neg hc];have hn:z0 - (l.length:Int) < 0:=Aaa
  exact aBs
theorem azP (n:Nat) (hn:n<=2000000):∀W:World,(Instr.makeSlice 26 (.int .i64 (n:Int)) (.int .i64 (n:Int))).run Tryz.prog W= .ok (.slice (some ⟨W.heap.size,0,none⟩) n n) (W.alloc (.cells (GR.flat aR (List.replicate n ⟨0,0,ByteArray.empty,0⟩)).toArray 95)):=by
 obtain⟨i0,hi,hz0,hz1,hz2⟩:=info_parts MO;intro W;have h:=run_make (P:=Tryz.prog) W 26 95 i0 (.agg (eU 0 0 ByteArray.empty 0)) Tryz.underlying26 hi hz0 .i64 .i64 (n:Int) (n:Int) Aaa Aaa (by rw [hz2];omega) Aaa;rw [hz1] at h;have e:=GR.made_flat aR 4 cZ Aaa ⟨0,0,ByteArray.empty,0⟩ (Value.cells (.agg (eU 0 0 ByteArray.empty 0))) rfl n;exact az9
theorem aA0 (p:kC) (w:World):Calls Tryz.prog 151 #[abU p] w (eP w (abU p)):=by
 obtain⟨pi,pt,pk,pn⟩:=p;go_enter Tryz.func151,Tryz.ntmps151
 go_wp2_with fail;refine bodyPost_ret (v:= .agg (eU pi pt pk pn)) (by simp[results,Tryz.results151,go_sem]) rfl ⟨rfl,?_⟩;exact aAH
theorem aAK (p:kC) (w:World):Calls Tryz.prog 155 #[abU p,abU p] w (eP w (.bool true)):=by
 obtain⟨pi,pt,pk,pn⟩:=p;go_enter Tryz.func155,Tryz.ntmps155
 exact aAG
theorem ayw (l:List kC) (z:kC) (k:Nat) (hk:k < l.length):(l.take k++List.replicate (l.length - k) z).set k l[k]=l.take (k+1)++List.replicate (l.length - (k+1)) z:=by
 exact Zx7
theorem aAw (a:Option Addr) (cap:Nat) (l:List kC) (w:World) (hl:l.length<=1048576) (ha:SentAt w a l):
 Calls Tryz.prog 80 #[.slice a l.length cap] w λe w'=>e= .returned (.slice (some ⟨w.heap.size,0,none⟩) l.length l.length)/\uT w' w.heap.size l/\aX w w':=by
 have hmk:=azP l.length Aaa;have HA:=Hq ha;clear ha;go_enter Tryz.func80,Tryz.ntmps80
 go_wp2_with fail;go_loopw [4] (λi wr=>∃k:Nat,k<=l.length/\i= .int .i64 k/\uT wr w.heap.size (l.take k++List.replicate (l.length - k) ⟨0,0,ByteArray.empty,0⟩)/\aX w wr) (λi _=>l.length - (intOf i).toNat)
 case atStart=>exact⟨0,Nat.zero_le _,rfl,by unfold uT GR.Blk;rw [List.take_zero,List.nil_append,Nat.sub_zero];exact heap_alloc_new w _,dM w _⟩
 case round=>
  open aCj in exact az6
theorem aAW (p:kC) (left:Int) (w:World) (h0:0<=left) (h1:left<=1048576) (hk:p.k.size<=maxLen):Calls Tryz.prog 147 #[abU p,.int .i64 left] w (eP w (.int .i64 (if (p.k.size:Int)<=left then left - p.k.size else -1))):=by
 obtain⟨pi,pt,pk,pn⟩:=p;dsimp only at hk ⊢;unfold maxLen at hk;by_cases hc:(pk.size:Int)<=left
 .rw [if_pos hc];have hn:¬(left - (pk.size:Int) < 0):=Aaa
  go_enter Tryz.func147,Tryz.ntmps147
  exact Zx8
 .rw [if_neg hc];have hn:left - (pk.size:Int) < 0:=Aaa
  go_enter Tryz.func147,Tryz.ntmps147
  exact Zx8
theorem aAd (a b:Option Addr) (ca cb:Nat) (l:List kC) (w:World) (hl:l.length<=1048600) (ha:SentAt w a l) (hb:SentAt w b l):
 Calls Tryz.prog 85 #[.slice a l.length ca,.slice b l.length cb] w (eP w (.bool true)):=by
 have HA:=Hq ha;have HB:=Hq hb;clear ha hb;go_enter Tryz.func85,Tryz.ntmps85
 go_wp2_with fail;go_loopw [5] (λi wr=>∃k:Nat,k<=l.length/\i= .int .i64 k/\aX w wr) (λi _=>l.length - (intOf i).toNat)
 case atStart=>exact azx
 case round=>
  obtain⟨k,hk,rfl,hbel⟩:=hrel;have fO:=Hq hbel;clear hbel;by_cases hlt:k < l.length
  .obtain⟨g1,o1,rfl,hg1,s0,s1,s2,s3⟩:=SentAt.four (GR.At.below HA fO) k hlt;obtain⟨g2,o2,rfl,hg2,t0,t1,t2,t3⟩:=SentAt.four (GR.At.below HB fO) k hlt;generalize l[k]=pu at *;have HEQ:=Hq (λw1=>aAK pu w1);obtain⟨pi,pt,pk,pn⟩:=pu;dsimp only at s0 s1 s2 s3 t0 t1 t2 t3;go_wp2_with fail
   go_region_held (λw'=>(w'.cell? ⟨g1,o1+k*4,none⟩=some (.int .i64 pi)/\w'.cell? ⟨g1,o1+k*4+1,none⟩=some (.int .i64 pt)/\w'.cell? ⟨g1,o1+k*4+2,none⟩=some (.string pk)/\w'.cell? ⟨g1,o1+k*4+3,none⟩=some (.int .i64 pn))/\w'.cell? ⟨g2,o2+k*4,none⟩=some (.int .i64 pi)/\w'.cell? ⟨g2,o2+k*4+1,none⟩=some (.int .i64 pt)/\w'.cell? ⟨g2,o2+k*4+2,none⟩=some (.string pk)/\w'.cell? ⟨g2,o2+k*4+3,none⟩=some (.int .i64 pn)) (go_keep)
    (first
     |(go_at_call 155;refine(HEQ _).mono ?_;rintro e w5 ⟨rfl,hb5⟩;have hb6:aX wr w5:=⟨hb5.os,hb5.tape,hb5.output,hb5.size,hb5.block⟩;clear hb5;have lT:=Hq (fO.trans (hb6.mono fO.size));have y0:=(hb6.cell (p:=⟨g1,o1+k*4,none⟩) hg1).trans s0;have y1:=(hb6.cell (p:=⟨g1,o1+k*4+1,none⟩) hg1).trans s1;have y2:=(hb6.cell (p:=⟨g1,o1+k*4+2,none⟩) hg1).trans s2;have y3:=(hb6.cell (p:=⟨g1,o1+k*4+3,none⟩) hg1).trans s3;have z0:=(hb6.cell (p:=⟨g2,o2+k*4,none⟩) hg2).trans t0;have z1:=(hb6.cell (p:=⟨g2,o2+k*4+1,none⟩) hg2).trans t1;have z2:=(hb6.cell (p:=⟨g2,o2+k*4+2,none⟩) hg2).trans t2;have z3:=(hb6.cell (p:=⟨g2,o2+k*4+3,none⟩) hg2).trans t3;clear hb6))
   all_goals
    go_wp2_with fail
    go_roundw
    case rel=>exact⟨k+1,Aaa,Aai,lT⟩
    case measure=>simp[intOf];omega
  .exact Zx4
theorem aAt (a:Option Addr) (ca:Nat) (l:List kC) (z0:Int) (w:World) (h0:0<=z0) (h1:z0<=1048576) (hl:l.length<=maxLen) (hks:∀p∈l,p.k.size<=maxLen) (ha:SentAt w a l):
 Calls Tryz.prog 75 #[.slice a l.length ca,.int .i64 z0] w λe w'=>∃r:Int,e= .returned (.int .i64 r)/\aX w w'/\(r= -1\/0<=r/\r<=1048576/\l.length<=1048576/\∀p∈l,p.k.size<=1048576):=by
 have HA:=Hq ha;clear ha;unfold maxLen at hl;by_cases hbig:(l.length:Int)<=z0
 .have hn:¬(z0 - (l.length:Int) < 0):=Aaa
  go_enter Tryz.func75,Tryz.ntmps75
  go_wp2_with fail;go_loopw [1,5] (λlf i wr=>∃(k:Nat) (z:Int),k<=l.length/\i= .int .i64 k/\lf= .int .i64 z/\0<=z/\z<=1048576/\(∀p∈l.take k,p.k.size<=1048576)/\aX w wr) (λ_ i _=>l.length - (intOf i).toNat)
  case atStart=>exact Zx9
  case round=>
   open aCe in exact Yx9
 .have hn:z0 - (l.length:Int) < 0:=Aaa
  go_enter Tryz.func75,Tryz.ntmps75
  exact az8
abbrev azu (p:Rq):Value:= .agg (dX p.no p.k p.n p.s)
theorem aAp (n:Nat) (hn:n<=2000000):∀W:World,(Instr.makeSlice 28 (.int .i64 (n:Int)) (.int .i64 (n:Int))).run Tryz.prog W= .ok (.slice (some ⟨W.heap.size,0,none⟩) n n) (W.alloc (.cells (GR.flat aM (List.replicate n ⟨0,ByteArray.empty,0,0⟩)).toArray 97)):=by
 obtain⟨i0,hi,hz0,hz1,hz2⟩:=info_parts yg;intro W;have h:=run_make (P:=Tryz.prog) W 28 97 i0 (.agg (dX 0 ByteArray.empty 0 0)) Tryz.underlying28 hi hz0 .i64 .i64 (n:Int) (n:Int) Aaa Aaa (by rw [hz2];omega) Aaa;rw [hz1] at h;have e:=GR.made_flat aM 4 bg Aaa ⟨0,ByteArray.empty,0,0⟩ (Value.cells (.agg (dX 0 ByteArray.empty 0 0))) rfl n;exact az9
theorem aBE (p:Rq) (w:World):Calls Tryz.prog 153 #[azu p] w (eP w (azu p)):=by
 obtain⟨pno,pk,pn,ps⟩:=p;go_enter Tryz.func153,Tryz.ntmps153
 go_wp2_with fail;refine bodyPost_ret (v:= .agg (dX pno pk pn ps)) (by simp[results,Tryz.results153,go_sem]) rfl ⟨rfl,?_⟩;exact aAH
theorem aBu (p:Rq) (w:World):Calls Tryz.prog 157 #[azu p,azu p] w (eP w (.bool true)):=by
 obtain⟨pno,pk,pn,ps⟩:=p;go_enter Tryz.func157,Tryz.ntmps157
 exact aAG
theorem ayD (l:List Rq) (z:Rq) (k:Nat) (hk:k < l.length):(l.take k++List.replicate (l.length - k) z).set k l[k]=l.take (k+1)++List.replicate (l.length - (k+1)) z:=by
 exact Zx7
theorem aAY (a:Option Addr) (cap:Nat) (l:List Rq) (w:World) (hl:l.length<=1048576) (ha:iU w a l):
 Calls Tryz.prog 82 #[.slice a l.length cap] w λe w'=>e= .returned (.slice (some ⟨w.heap.size,0,none⟩) l.length l.length)/\zx w' w.heap.size l/\aX w w':=by
 have hmk:=aAp l.length Aaa;have HA:=Hq ha;clear ha;go_enter Tryz.func82,Tryz.ntmps82
 go_wp2_with fail;go_loopw [4] (λi wr=>∃k:Nat,k<=l.length/\i= .int .i64 k/\zx wr w.heap.size (l.take k++List.replicate (l.length - k) ⟨0,ByteArray.empty,0,0⟩)/\aX w wr) (λi _=>l.length - (intOf i).toNat)
 case atStart=>exact⟨0,Nat.zero_le _,rfl,by unfold zx GR.Blk;rw [List.take_zero,List.nil_append,Nat.sub_zero];exact heap_alloc_new w _,dM w _⟩
 case round=>
  open aCk in exact az6
theorem aBD (p:Rq) (left:Int) (w:World) (h0:0<=left) (h1:left<=1048576) (hk:p.k.size<=maxLen):Calls Tryz.prog 149 #[azu p,.int .i64 left] w (eP w (.int .i64 (if (p.k.size:Int)<=left then left - p.k.size else -1))):=by
 obtain⟨pno,pk,pn,ps⟩:=p;dsimp only at hk ⊢;unfold maxLen at hk;by_cases hc:(pk.size:Int)<=left
 .rw [if_pos hc];have hn:¬(left - (pk.size:Int) < 0):=Aaa
  go_enter Tryz.func149,Tryz.ntmps149
  exact Zx8
 .rw [if_neg hc];have hn:left - (pk.size:Int) < 0:=Aaa
  go_enter Tryz.func149,Tryz.ntmps149
  exact Zx8
theorem aAI (a b:Option Addr) (ca cb:Nat) (l:List Rq) (w:World) (hl:l.length<=1048600) (ha:iU w a l) (hb:iU w b l):
 Calls Tryz.prog 87 #[.slice a l.length ca,.slice b l.length cb] w (eP w (.bool true)):=by
 have HA:=Hq ha;have HB:=Hq hb;clear ha hb;go_enter Tryz.func87,Tryz.ntmps87
 go_wp2_with fail;go_loopw [5] (λi wr=>∃k:Nat,k<=l.length/\i= .int .i64 k/\aX w wr) (λi _=>l.length - (intOf i).toNat)
 case atStart=>exact azx
 case round=>
  obtain⟨k,hk,rfl,hbel⟩:=hrel;have fO:=Hq hbel;clear hbel;by_cases hlt:k < l.length
  .obtain⟨g1,o1,rfl,hg1,s0,s1,s2,s3⟩:=iU.four (GR.At.below HA fO) k hlt;obtain⟨g2,o2,rfl,hg2,t0,t1,t2,t3⟩:=iU.four (GR.At.below HB fO) k hlt;generalize l[k]=pu at *;have HEQ:=Hq (λw1=>aBu pu w1);obtain⟨pno,pk,pn,ps⟩:=pu;dsimp only at s0 s1 s2 s3 t0 t1 t2 t3;go_wp2_with fail
   go_region_held (λw'=>(w'.cell? ⟨g1,o1+k*4,none⟩=some (.int .i64 pno)/\w'.cell? ⟨g1,o1+k*4+1,none⟩=some (.string pk)/\w'.cell? ⟨g1,o1+k*4+2,none⟩=some (.int .i64 pn)/\w'.cell? ⟨g1,o1+k*4+3,none⟩=some (.int .i64 ps))/\w'.cell? ⟨g2,o2+k*4,none⟩=some (.int .i64 pno)/\w'.cell? ⟨g2,o2+k*4+1,none⟩=some (.string pk)/\w'.cell? ⟨g2,o2+k*4+2,none⟩=some (.int .i64 pn)/\w'.cell? ⟨g2,o2+k*4+3,none⟩=some (.int .i64 ps)) (go_keep)
    (first
     |(go_at_call 157;refine(HEQ _).mono ?_;rintro e w5 ⟨rfl,hb5⟩;have hb6:aX wr w5:=⟨hb5.os,hb5.tape,hb5.output,hb5.size,hb5.block⟩;clear hb5;have lT:=Hq (fO.trans (hb6.mono fO.size));have y0:=(hb6.cell (p:=⟨g1,o1+k*4,none⟩) hg1).trans s0;have y1:=(hb6.cell (p:=⟨g1,o1+k*4+1,none⟩) hg1).trans s1;have y2:=(hb6.cell (p:=⟨g1,o1+k*4+2,none⟩) hg1).trans s2;have y3:=(hb6.cell (p:=⟨g1,o1+k*4+3,none⟩) hg1).trans s3;have z0:=(hb6.cell (p:=⟨g2,o2+k*4,none⟩) hg2).trans t0;have z1:=(hb6.cell (p:=⟨g2,o2+k*4+1,none⟩) hg2).trans t1;have z2:=(hb6.cell (p:=⟨g2,o2+k*4+2,none⟩) hg2).trans t2;have z3:=(hb6.cell (p:=⟨g2,o2+k*4+3,none⟩) hg2).trans t3;clear hb6))
   all_goals
    go_wp2_with fail
    go_roundw
    case rel=>exact⟨k+1,Aaa,Aai,lT⟩
    case measure=>simp[intOf];omega
  .exact Zx4
theorem aAU (a:Option Addr) (ca:Nat) (l:List Rq) (z0:Int) (w:World) (h0:0<=z0) (h1:z0<=1048576) (hl:l.length<=maxLen) (hks:∀p∈l,p.k.size<=maxLen) (ha:iU w a l):
 Calls Tryz.prog 77 #[.slice a l.length ca,.int .i64 z0] w λe w'=>∃r:Int,e= .returned (.int .i64 r)/\aX w w'/\(r= -1\/0<=r/\r<=1048576/\l.length<=1048576/\∀p∈l,p.k.size<=1048576):=by
 have HA:=Hq ha;clear ha;unfold maxLen at hl;by_cases hbig:(l.length:Int)<=z0
 .have hn:¬(z0 - (l.length:Int) < 0):=Aaa
  go_enter Tryz.func77,Tryz.ntmps77
  go_wp2_with fail;go_loopw [1,5] (λlf i wr=>∃(k:Nat) (z:Int),k<=l.length/\i= .int .i64 k/\lf= .int .i64 z/\0<=z/\z<=1048576/\(∀p∈l.take k,p.k.size<=1048576)/\aX w wr) (λ_ i _=>l.length - (intOf i).toNat)
  case atStart=>exact Zx9
  case round=>
   open aCf in exact Yx9
 .have hn:z0 - (l.length:Int) < 0:=Aaa
  go_enter Tryz.func77,Tryz.ntmps77
  exact az8
abbrev ayg (s:Sn) (b:Option Addr) (c:Nat):Value:= .agg #[.int .i64 s.f,.int .i64 s.l,.slice b s.ids.length c]
theorem azO (n:Nat) (hn:n<=2000000):∀W:World,(Instr.makeSlice 27 (.int .i64 (n:Int)) (.int .i64 (n:Int))).run Tryz.prog W= .ok (.slice (some ⟨W.heap.size,0,none⟩) n n) (W.alloc (.cells (GR.flat eG (List.replicate n ⟨0,0,.slice none 0 0⟩)).toArray 90)):=by
 obtain⟨i0,hi,hz0,hz1,hz2⟩:=info_parts MK;intro W;have h:=run_make (P:=Tryz.prog) W 27 90 i0 (.agg #[.int .i64 0,.int .i64 0,.slice none 0 0]) Tryz.underlying27 hi hz0 .i64 .i64 (n:Int) (n:Int) Aaa Aaa (by rw [hz2];omega) Aaa;rw [hz1] at h;have e:=GR.made_flat eG 3 bZ Aaa ⟨0,0,.slice none 0 0⟩ (Value.cells (.agg #[.int .i64 0,.int .i64 0,.slice none 0 0])) rfl n;exact az9
theorem aAZ (s:Sn) (b:Option Addr) (c:Nat) (w:World) (hl:s.ids.length<=1048576) (ha:eu w b s.ids):
 Calls Tryz.prog 152 #[ayg s b c] w λe w'=>∃g,w.heap.size<=g/\e= .returned (ayg s (some ⟨g,0,none⟩) s.ids.length)/\wI w' g s.ids/\aX w w':=by
 obtain⟨fr,lo,ids⟩:=s;dsimp only at hl ha ⊢;have HA:=Hq ha;clear ha;go_enter Tryz.func152,Tryz.ntmps152
 go_upto_region 4 with fail;refine wp_at (λW0 hW0=>?_);obtain⟨hP,hR,hO,hB⟩:=I7 w (.cells #[.int .i64 fr,.int .i64 lo,.slice b ids.length c] 181) (.cells #[.int .i64 0,.int .i64 0,.slice none 0 0] 90) (.cells #[.int .i64 fr,.int .i64 lo,.slice none 0 0] 90);rw [<-hW0] at hP hR hO hB;have HP:=Hq hP;have HR:=Hq hR;have HO:=Hq hO;have HB:=Hq hB;clear hP hR hO hB hW0;obtain⟨c0,c1,c2⟩:=three HP;have HT:=Hq (azY b c ids W0 hl (GR.At.below HA HB));go_wp2_with fail;refine HT.mono ?_;rintro e w1 ⟨rfl,hblk,hb1⟩;have HR1:=Hq (ay HR hb1);have HO1:=Hq (ay HO hb1);have HI1:=Hq hblk;have HB1:=Hq (HB.trans (hb1.mono HB.size));have HLT:=Hq (aA HO);clear hblk hb1 c0 c1 c2 HT;obtain⟨d0,d1,d2⟩:=three HO1;obtain⟨r0,r1,r2⟩:=three HR1;have f0:=au HO1 2;have f1:=au HR1 0;have f2:=au HR1 1;have f3:=au HR1 2;go_wp2_with fail;refine aN (λW' hW'=>?_);have hR:=bC (bC (bC (jU (g:=w.heap.size+1+1) (i:=2) (v:= .slice (some ⟨W0.heap.size,0,none⟩) ids.length ids.length) HR1 Aaa) 0 (.int .i64 fr)) 1 (.int .i64 lo)) 2 (.slice (some ⟨W0.heap.size,0,none⟩) ids.length ids.length);obtain⟨x0,x1,x2⟩:=three (show W'.heap[w.heap.size+1]?=some (.cells #[.int .i64 fr,.int .i64 lo,.slice (some ⟨W0.heap.size,0,none⟩) ids.length ids.length] 90 (0,0)) by rw [hW'];exact hR);have hlt:=ah HLT;refine bodyPost_ret (v:=ayg ⟨fr,lo,ids⟩ (some ⟨W0.heap.size,0,none⟩) ids.length) (by simp[results,Tryz.results152,go_sem,x0,x1,x2]) rfl ⟨W0.heap.size,Aaa,rfl,?_,?_⟩
 .rw [hW'];exact jU (jU (jU (jU HI1 Aaa) Aaa) Aaa) Aaa
 .rw [hW'];exact(((HB1.setCell (p:=⟨w.heap.size+1+1,2,none⟩) (by show w.heap.size<=w.heap.size+1+1;omega) _).setCell (p:=⟨w.heap.size+1,0,none⟩) (by show w.heap.size<=w.heap.size+1;omega) _).setCell (p:=⟨w.heap.size+1,1,none⟩) (by show w.heap.size<=w.heap.size+1;omega) _).setCell (p:=⟨w.heap.size+1,2,none⟩) (by show w.heap.size<=w.heap.size+1;omega) _
theorem aAv (a:Option Addr) (cap:Nat) (l:List Sn) (w:World) (hl:l.length<=1048576) (hl2:∀s∈l,s.ids.length<=1048576) (ha:lu w a l):
 Calls Tryz.prog 81 #[.slice a l.length cap] w λe w'=>e= .returned (.slice (some ⟨w.heap.size,0,none⟩) l.length l.length)/\(∃(T:List R3) (I:Nat->Nat),Zn w' w.heap.size T/\T.length=l.length/\(∀i,i < l.length->w.heap.size < I i/\I i < w'.heap.size/\T[i]?=some ⟨(l.getD i default).f,(l.getD i default).l,.slice (some ⟨I i,0,none⟩) (l.getD i default).ids.length (l.getD i default).ids.length⟩/\wI w' (I i) (l.getD i default).ids)/\(∀i j,i < j->j < l.length->I i < I j))/\aX w w':=by
 have hmk:=azO l.length Aaa;have HA:=Hq ha;have HL2:=Hq hl2;clear ha hl2;go_enter Tryz.func81,Tryz.ntmps81
 go_wp2_with fail;go_loopw [4] (λi wr=>∃(k:Nat) (T:List R3) (I:Nat->Nat),k<=l.length/\i= .int .i64 k/\Zn wr w.heap.size T/\T.length=l.length/\(∀i,i < k->w.heap.size < I i/\I i < wr.heap.size/\T[i]?=some ⟨(l.getD i default).f,(l.getD i default).l,.slice (some ⟨I i,0,none⟩) (l.getD i default).ids.length (l.getD i default).ids.length⟩/\wI wr (I i) (l.getD i default).ids)/\(∀i j,i < j->j < k->I i < I j)/\aX w wr) (λi _=>l.length - (intOf i).toNat)
 case atStart=>exact⟨0,List.replicate l.length ⟨0,0,.slice none 0 0⟩,λi=>i,Nat.zero_le _,rfl,heap_alloc_new w _,Aac,λi hi=>Aaa,λi j _ hj=>Aaa,aj w _⟩
 case round=>
  obtain⟨k,T,I,hk,rfl,hB,hTl,hI,hIm,hbel⟩:=hrel;have HB:=Hq hB;have fO:=Hq hbel;have HI:=Hq hI;have HIM:=Hq hIm;clear hB hbel hmk hI hIm;by_cases hlt:k < l.length
  .obtain⟨g,off,b,c,e0,hgw,q0,q1,q2,hX⟩:=lu.below HA fO k hlt;subst e0;have hs:=ah HL2 _ (List.getElem_mem hlt);have HTO:=Hq (aAZ l[k] b c wr hs hX);have hgd:l.getD k default=l[k]:=by rw [List.getD_eq_getElem?_getD,List.getElem?_eq_getElem hlt];rfl
   have HGD:=Hq hgd;clear hX hgd;generalize l[k]=sk at *;obtain⟨fr,lo,ids⟩:=sk;dsimp only at q0 q1 q2 hs;go_wp2_with fail;refine HTO.mono ?_;rintro e w5 ⟨g5,hg5,rfl,hI5,hb5⟩;have jW:Hid (Zn w5 w.heap.size T):=ay HB hb5;have lT:=Hq (fO.trans (hb5.mono fO.size));have HI5:=Hq hI5;have HS5:=Hq hb5;have aCr:=aA hI5;have hwl:=aA HB;clear hb5 q0 q1 q2 hI5 HTO;obtain⟨s0,s1,s2⟩:=Zn.three jW k Aaa;have f0:=GR.Blk.free jW (k*3);have f1:=GR.Blk.free jW (k*3+1);have f2:=GR.Blk.free jW (k*3+2);go_wp2_with fail;go_roundw
   case rel=>
    have h:=GR.Blk.set jW bZ k Aaa ⟨fr,lo,.slice (some ⟨g5,0,none⟩) ids.length ids.length⟩;refine⟨k+1,T.set k ⟨fr,lo,.slice (some ⟨g5,0,none⟩) ids.length ids.length⟩,λi=>if i=k then g5 else I i,Aaa,Aai,h,by simpa using hTl,?_,?_,GR.setW_below (o:=k*3) (Nat.le_refl w.heap.size) (eG ⟨fr,lo,.slice (some ⟨g5,0,none⟩) ids.length ids.length⟩) lT⟩
    .intro i hi;have hsz:∀X:Nat,X < w5.heap.size->X < (GR.setW w5 w.heap.size (k*3) (eG ⟨fr,lo,.slice (some ⟨g5,0,none⟩) ids.length ids.length⟩)).heap.size:=λX hX=>Nat.lt_of_lt_of_le hX (GR.setW_below (B:=0) (a:=w5) (o:=k*3) (Nat.zero_le w.heap.size) _ ⟨rfl,rfl,rfl,Nat.le_refl _,λ_ h=>absurd h (Nat.not_lt_zero _)⟩).size
     by_cases hik:i=k
     .subst hik;simp only[if_true];rw [ah HGD];exact⟨Aaa,hsz _ aCr,by rw [List.getElem?_set_self Aaa],(GR.setW_other (g:=w.heap.size) (g':=g5) Aaa (eG ⟨fr,lo,.slice (some ⟨g5,0,none⟩) ids.length ids.length⟩) (w:=w5) (o:=i*3)).trans HI5⟩
     .simp only[if_neg hik];obtain⟨h1,h2,h3,h4⟩:=ah HI i Aaa;refine⟨h1,hsz _ (Nat.lt_of_lt_of_le h2 HS5.size),by rw [List.getElem?_set_ne Aaa];exact h3,(GR.setW_other (g:=w.heap.size) (g':=I i) Aaa (eG ⟨fr,lo,.slice (some ⟨g5,0,none⟩) ids.length ids.length⟩) (w:=w5) (o:=k*3)).trans (ay h4 HS5)⟩
    .intro i j hij hj;by_cases hjk:j=k
     .subst hjk;simp only[if_true,if_neg (show¬i=j by omega)];have:=(HI i Aaa).2.1;omega
     .simp only[if_neg hjk,if_neg (show¬i=k by omega)];exact HIM i j hij Aaa
   case measure=>simp[intOf];omega
  .open aBP in exact Yx3
theorem aAV (s:Sn) (b:Option Addr) (c:Nat) (left:Int) (w:World) (h0:0<=left) (h1:left<=1048576) (hk:s.ids.length<=maxLen):Calls Tryz.prog 148 #[ayg s b c,.int .i64 left] w (eP w (.int .i64 (if (s.ids.length:Int)<=left then left - s.ids.length else -1))):=by
 obtain⟨fr,lo,ids⟩:=s;dsimp only at hk ⊢;have HI:=Hq (λw1=>azX b c ids left w1 h0 h1 hk);by_cases hc:(ids.length:Int)<=left
 .rw [if_pos hc] at HI ⊢;have hn:¬(left - (ids.length:Int) < 0):=Aaa
  exact aBr
 .rw [if_neg hc] at HI ⊢;exact aBr
theorem aAs (a:Option Addr) (ca:Nat) (l:List Sn) (z0:Int) (w:World) (h0:0<=z0) (h1:z0<=1048576) (hl:l.length<=maxLen) (hks:∀p∈l,p.ids.length<=maxLen) (ha:lu w a l):
 Calls Tryz.prog 76 #[.slice a l.length ca,.int .i64 z0] w λe w'=>∃r:Int,e= .returned (.int .i64 r)/\aX w w'/\(r= -1\/0<=r/\r<=1048576/\l.length<=1048576/\∀p∈l,p.ids.length<=1048576):=by
 have HA:=Hq ha;clear ha;unfold maxLen at hl;by_cases hbig:(l.length:Int)<=z0
 .have hn:¬(z0 - (l.length:Int) < 0):=Aaa
  go_enter Tryz.func76,Tryz.ntmps76
  go_wp2_with fail;go_loopw [1,5] (λlf i wr=>∃(k:Nat) (z:Int),k<=l.length/\i= .int .i64 k/\lf= .int .i64 z/\0<=z/\z<=1048576/\(∀p∈l.take k,p.ids.length<=1048576)/\aX w wr) (λ_ i _=>l.length - (intOf i).toNat)
  case atStart=>exact Zx9
  case round=>
   open aCg in exact Yx9
 .have hn:z0 - (l.length:Int) < 0:=Aaa
  go_enter Tryz.func76,Tryz.ntmps76
  exact az8
theorem aAJ (s:Sn) (b b':Option Addr) (c c':Nat) (w:World) (hl:s.ids.length<=1048600) (ha:eu w b s.ids) (hb:eu w b' s.ids):Calls Tryz.prog 156 #[ayg s b c,ayg s b' c'] w (eP w (.bool true)):=by
 obtain⟨fr,lo,ids⟩:=s;dsimp only at hl ha hb ⊢;have hbx:Below w.heap.size w ((w.alloc (.cells #[.int .i64 fr,.int .i64 lo,.slice b ids.length c] 90)).alloc (.cells #[.int .i64 fr,.int .i64 lo,.slice b' ids.length c'] 90)):=(aj w _).alloc Aac _;have HE:=Hq (azC b b' c c' ids _ hl (GR.At.below ha hbx) (GR.At.below hb hbx));have kE:=Hq hbx;clear ha hb hbx;go_enter Tryz.func156,Tryz.ntmps156
 go_wp2_with fail;refine HE.mono ?_;rintro e w1 ⟨rfl,hb1⟩;have HB1:=Hq (kE.trans (hb1.mono kE.size));clear hb1;go_wp2_with fail;go_ret;exact⟨rfl,HB1⟩
theorem aAc (a b:Option Addr) (ca cb:Nat) (l:List Sn) (w:World) (hl:l.length<=1048600) (hl2:∀s∈l,s.ids.length<=1048600) (ha:lu w a l) (hb:lu w b l):
 Calls Tryz.prog 86 #[.slice a l.length ca,.slice b l.length cb] w (eP w (.bool true)):=by
 have HA:=Hq ha;have HB:=Hq hb;have HL2:=Hq hl2;clear ha hb hl2;go_enter Tryz.func86,Tryz.ntmps86
 go_wp2_with fail;go_loopw [5] (λi wr=>∃k:Nat,k<=l.length/\i= .int .i64 k/\aX w wr) (λi _=>l.length - (intOf i).toNat)
 case atStart=>exact azx
 case round=>
  obtain⟨k,hk,rfl,hbel⟩:=hrel;have fO:=Hq hbel;clear hbel;by_cases hlt:k < l.length
  .obtain⟨g1,o1,b1,c1,e1,hg1,s0,s1,s2,hI1⟩:=lu.below HA fO k hlt;obtain⟨g2,o2,b2,c2,e2,hg2,t0,t1,t2,hI2⟩:=lu.below HB fO k hlt;subst e1 e2;have hs:=ah HL2 _ (List.getElem_mem hlt);generalize l[k]=pu at *;have HEQ:Hid (∀w1,aX wr w1->Calls Tryz.prog 156 #[ayg pu b1 c1,ayg pu b2 c2] w1 (eP w1 (.bool true))):=λw1 hbb=>aAJ pu b1 b2 c1 c2 w1 hs (GR.At.below hI1 hbb) (GR.At.below hI2 hbb)
   clear hI1 hI2;obtain⟨fr,lo,ids⟩:=pu;dsimp only at s0 s1 s2 t0 t1 t2 hs;go_wp2_with fail;have cE:∀d os,Calls Tryz.prog 156 #[ayg ⟨fr,lo,ids⟩ b1 c1,ayg ⟨fr,lo,ids⟩ b2 c2] (Sort.grow (redrawn wr d) os) λe w''=>e= .returned (.bool true)/\∃p:Regrown,w''=Sort.grow (redrawn wr p.d) p.os:=λd os=>Calls.regrown_of (HEQ _ (below_regrown wr d os))
   have k0:=cell_grown' s0;have k1:=cell_grown' s1;have k2:=cell_grown' s2;have m0:=cell_grown' t0;have m1:=cell_grown' t1;have m2:=cell_grown' t2;refine wp_region_quiet_below Aab Aab ?_;repeat (first|go_big_quiet_step ((go_at_call 156;exact cE _ _))|quiet_step ((go_at_call 156;exact cE _ _)))
   refine wpQuiet_nil ?_;intro _ hw';obtain⟨⟨dq,osq⟩,hw''⟩:=hw';subst hw'';go_wp2_with fail;go_roundw
   case rel=>exact⟨k+1,Aaa,Aai,fO.trans ((below_regrown _ dq osq).mono fO.size)⟩
   case measure=>simp[intOf];omega
  .exact Zx4
end Go.Proofs.YtacgbldlonoaaaaGreatDoor
