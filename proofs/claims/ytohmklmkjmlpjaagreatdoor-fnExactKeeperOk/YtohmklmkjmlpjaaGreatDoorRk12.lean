/- Parts. -/
import Derived.Test.YtohmklmkjmlpjaaGreatDoorRk4
import Derived.Test.YtohmklmkjmlpjaaGreatDoorRk8
namespace Go.Proofs.YtohmklmkjmlpjaaGreatDoor
open Go.Proofs.Tryz
set_option maxHeartbeats 2000000
set_option maxRecDepth 100000
open Go.RowKit
open Mth
variable (a:Option Addr) {w w':World} {g:Nat} {l:List Int}
abbrev bX (w:World) (a:Option Addr) (l:List Int):Prop:=GR.At aU 1 w a l
theorem bX.one {a:Option Addr} (h:bX w a l) (i:Nat) (hi:i < l.length):∃g off,a=some ⟨g,off,none⟩/\g < w.heap.size/\w.cell? ⟨g,off+i,none⟩=some (.int .i64 l[i]):=by
 obtain⟨g,off,e,hg,hc⟩:=h i hi;refine⟨g,off,e,hg,?_⟩;simpa using hc 0 Aaa
abbrev lQ (w:World) (g:Nat) (l:List Int):Prop:=GR.Blk aU 3 w g l
theorem lQ.one (h:lQ w g l) (i:Nat) (hi:i < l.length):w.cell? ⟨g,i,none⟩=some (.int .i64 l[i]):=by
 simpa using GR.Blk.cell h aQ i hi 0 Aaa
theorem lQ.step (h:lQ w g l) (hb:aI w w'):lQ w' g l:=by
 have hl:=GR.Blk.lt h;unfold lQ GR.Blk at *;rw [hb.block g hl];exact h
theorem wm:(prog.info? 3).map (λi=>(i.zero,i.size,i.bytes))=some (some (.int .i64 0),1,8):=Aab
theorem ab4 (n:Nat) (hn:n<=2000000):∀W:World,(Instr.makeSlice 22 (.int .i64 (n:Int)) (.int .i64 (n:Int))).run prog W= .ok (.slice (some ⟨W.heap.size,0,none⟩) n n) (W.alloc (.cells (GR.flat aU (List.replicate n 0)).toArray 3)):=by
 obtain⟨i0,hi,hz0,hz1,hz2⟩:=info_parts wm;intro W;have h:=run_make (P:=prog) W 22 3 i0 (.int .i64 0) underlying22 hi hz0 .i64 .i64 (n:Int) (n:Int) Aaa Aaa Abd Aaa;rw [hz1] at h;have e:=GR.made_flat aU 1 aQ Aaa 0 (Value.cells (.int .i64 0)) rfl n;exact Ef
theorem Yl (l:List Int) (z:Int) (k:Nat) (hk:k < l.length):(l.take k++List.replicate (l.length - k) z).set k l[k]=l.take (k+1)++List.replicate (l.length - (k+1)) z:=by
 exact aaH
theorem acZ (cap:Nat) (l:List Int) (w:World) (hl:l.length<=1048576) (ha:bX w a l):
 Calls prog 59 #[.slice a l.length cap] w λe w'=>e= .returned (.slice (some ⟨w.heap.size,0,none⟩) l.length l.length)/\lQ w' w.heap.size l/\aI w w':=by
 have hmk:=ab4 l.length Aaa;have HA:=Hq ha;clear ha;go_in
 go_wp2_with fail;go_loopw [4] (λi wr=>∃k:Nat,k<=l.length/\i= .int .i64 k/\lQ wr w.heap.size (l.take k++List.replicate (l.length - k) 0)/\aI w wr) (λi _=>l.length - (intOf i).toNat)
 case atStart=>exact⟨0,Nat.zero_le _,rfl,by unfold lQ GR.Blk;rw [List.take_zero,List.nil_append,Nat.sub_zero];exact heap_alloc_new w _,dS w _⟩
 case round=>
  open ap2 in exact R4
theorem aaV (a b:Option Addr) (ca cb:Nat) (l:List Int) (w:World) (hl:l.length<=1048600) (ha:bX w a l) (hb:bX w b l):
 Calls prog 73 #[.slice a l.length ca,.slice b l.length cb] w (eG w (.bool true)):=by
 have HA:=Hq ha;have HB:=Hq hb;clear ha hb;go_in
 go_wp2_with fail;go_loopw [5] (λi wr=>∃k:Nat,k<=l.length/\i= .int .i64 k/\aI w wr) (λi _=>l.length - (intOf i).toNat)
 case atStart=>exact AQ
 case round=>
  obtain⟨k,hk,rfl,hbel⟩:=hrel;have cK:=Hq hbel;clear hbel;by_cases hlt:k < l.length
  .obtain⟨g1,o1,rfl,hg1,s0⟩:=bX.one (GR.At.below HA cK) k hlt;obtain⟨g2,o2,rfl,hg2,t0⟩:=bX.one (GR.At.below HB cK) k hlt;generalize l[k]=pu at *;go_wp2_with fail;go_quiet (fail);go_wp2_with fail;go_roundw
   case rel=>exact⟨k+1,Aaa,Aah,cK.trans ⟨rfl,rfl,rfl,Nat.le_refl _,λ_ _=>rfl⟩⟩
   case measure=>simp[intOf];omega
  .exact R7
theorem acV (ca:Nat) (l:List Int) (z0:Int) (w:World) (h0:0<=z0) (h1:z0<=1048576) (hl:l.length<=maxLen):
 Calls prog 39 #[.slice a l.length ca,.int .i64 z0] w λe w'=>e= .returned (.int .i64 (if (l.length:Int)<=z0 then z0 - l.length else -1))/\w=w':=by
 unfold maxLen at hl;by_cases hc:(l.length:Int)<=z0
 .rw [if_pos hc];have hn:¬(z0 - (l.length:Int) < 0):=Aaa
  go_in
  exact Og
 .rw [if_neg hc];have hn:z0 - (l.length:Int) < 0:=Aaa
  go_in
  exact Og
abbrev SentAt (w:World) (a:Option Addr) (l:List jK):Prop:=GR.At aS 4 w a l
abbrev Ed (p:jK):Value:= .agg (gJ p.i p.t p.k p.n)
theorem SentAt.four {a:Option Addr} {l:List jK} (h:SentAt w a l) (i:Nat) (hi:i < l.length):∃g off,a=some ⟨g,off,none⟩/\g < w.heap.size/\w.cell? ⟨g,off+i*4,none⟩=some (.int .i64 l[i].i)/\w.cell? ⟨g,off+i*4+1,none⟩=some (.int .i64 l[i].t)/\w.cell? ⟨g,off+i*4+2,none⟩=some (.string l[i].k)/\w.cell? ⟨g,off+i*4+3,none⟩=some (.int .i64 l[i].n):=by
 exact ajU
abbrev lJ (w:World) (g:Nat) (l:List jK):Prop:=GR.Blk aS 91 w g l
theorem lJ.four {l:List jK} (h:lJ w g l) (i:Nat) (hi:i < l.length):w.cell? ⟨g,i*4,none⟩=some (.int .i64 l[i].i)/\w.cell? ⟨g,i*4+1,none⟩=some (.int .i64 l[i].t)/\w.cell? ⟨g,i*4+2,none⟩=some (.string l[i].k)/\w.cell? ⟨g,i*4+3,none⟩=some (.int .i64 l[i].n):=
 ⟨by simpa using GR.Blk.cell h bH i hi 0 Aaa,by simpa using GR.Blk.cell h bH i hi 1 Aaa,by simpa using GR.Blk.cell h bH i hi 2 Aaa,by simpa using GR.Blk.cell h bH i hi 3 Aaa⟩
theorem lJ.step {l:List jK} (h:lJ w g l) (hb:aI w w'):lJ w' g l:=by
 have hl:=GR.Blk.lt h;unfold lJ GR.Blk at *;rw [hb.block g hl];exact h
theorem EL:(prog.info? 91).map (λi=>(i.zero,i.size,i.bytes))=some (some (.agg (gJ 0 0 ByteArray.empty 0)),4,40):=Aab
theorem ab7 (n:Nat) (hn:n<=2000000):∀W:World,(Instr.makeSlice 36 (.int .i64 (n:Int)) (.int .i64 (n:Int))).run prog W= .ok (.slice (some ⟨W.heap.size,0,none⟩) n n) (W.alloc (.cells (GR.flat aS (List.replicate n ⟨0,0,ByteArray.empty,0⟩)).toArray 91)):=by
 obtain⟨i0,hi,hz0,hz1,hz2⟩:=info_parts EL;intro W;have h:=run_make (P:=prog) W 36 91 i0 (.agg (gJ 0 0 ByteArray.empty 0)) underlying36 hi hz0 .i64 .i64 (n:Int) (n:Int) Aaa Aaa Abd Aaa;rw [hz1] at h;have e:=GR.made_flat aS 4 bH Aaa ⟨0,0,ByteArray.empty,0⟩ (Value.cells (.agg (gJ 0 0 ByteArray.empty 0))) rfl n;exact Ef
theorem ak5 (p:jK) (w:World):Calls prog 113 #[Ed p] w (eG w (Ed p)):=by
 obtain⟨pi,pt,pk,pn⟩:=p;go_in
 go_wp2_with fail;refine bodyPost_ret (v:= .agg (gJ pi pt pk pn)) (by simp[results,results113,go_sem]) rfl ⟨rfl,?_⟩;exact Vd
theorem akb (p:jK) (w:World):Calls prog 130 #[Ed p,Ed p] w (eG w (.bool true)):=by
 obtain⟨pi,pt,pk,pn⟩:=p;go_in
 exact Vb
theorem MQ (l:List jK) (z:jK) (k:Nat) (hk:k < l.length):(l.take k++List.replicate (l.length - k) z).set k l[k]=l.take (k+1)++List.replicate (l.length - (k+1)) z:=by
 exact aaH
theorem afb (cap:Nat) (l:List jK) (w:World) (hl:l.length<=1048576) (ha:SentAt w a l):
 Calls prog 61 #[.slice a l.length cap] w λe w'=>e= .returned (.slice (some ⟨w.heap.size,0,none⟩) l.length l.length)/\lJ w' w.heap.size l/\aI w w':=by
 have hmk:=ab7 l.length Aaa;have HA:=Hq ha;clear ha;go_in
 go_wp2_with fail;go_loopw [4] (λi wr=>∃k:Nat,k<=l.length/\i= .int .i64 k/\lJ wr w.heap.size (l.take k++List.replicate (l.length - k) ⟨0,0,ByteArray.empty,0⟩)/\aI w wr) (λi _=>l.length - (intOf i).toNat)
 case atStart=>exact⟨0,Nat.zero_le _,rfl,by unfold lJ GR.Blk;rw [List.take_zero,List.nil_append,Nat.sub_zero];exact heap_alloc_new w _,dS w _⟩
 case round=>
  open ap3 in exact R4
theorem ak0 (p:jK) (left:Int) (w:World) (h0:0<=left) (h1:left<=1048576) (hk:p.k.size<=maxLen):Calls prog 96 #[Ed p,.int .i64 left] w λe w'=>e= .returned (.int .i64 (if (p.k.size:Int)<=left then left - p.k.size else -1))/\aI w w':=by
 obtain⟨pi,pt,pk,pn⟩:=p;dsimp only at hk ⊢;unfold maxLen at hk;by_cases hc:(pk.size:Int)<=left
 .rw [if_pos hc];have hn:¬(left - (pk.size:Int) < 0):=Aaa
  go_in
  exact Ww
 .rw [if_neg hc];have hn:left - (pk.size:Int) < 0:=Aaa
  go_in
  exact Ww
theorem aej (a b:Option Addr) (ca cb:Nat) (l:List jK) (w:World) (hl:l.length<=1048600) (ha:SentAt w a l) (hb:SentAt w b l):
 Calls prog 75 #[.slice a l.length ca,.slice b l.length cb] w (eG w (.bool true)):=by
 have HA:=Hq ha;have HB:=Hq hb;clear ha hb;go_in
 go_wp2_with fail;go_loopw [5] (λi wr=>∃k:Nat,k<=l.length/\i= .int .i64 k/\aI w wr) (λi _=>l.length - (intOf i).toNat)
 case atStart=>exact AQ
 case round=>
  obtain⟨k,hk,rfl,hbel⟩:=hrel;have cK:=Hq hbel;clear hbel;by_cases hlt:k < l.length
  .obtain⟨g1,o1,rfl,hg1,s0,s1,s2,s3⟩:=SentAt.four (GR.At.below HA cK) k hlt;obtain⟨g2,o2,rfl,hg2,t0,t1,t2,t3⟩:=SentAt.four (GR.At.below HB cK) k hlt;generalize l[k]=pu at *;have UA:=Hq (λw1=>akb pu w1);obtain⟨pi,pt,pk,pn⟩:=pu;dsimp only at s0 s1 s2 s3 t0 t1 t2 t3;go_wp2_with fail
   go_region_held (λw'=>(w'.cell? ⟨g1,o1+k*4,none⟩=some (.int .i64 pi)/\w'.cell? ⟨g1,o1+k*4+1,none⟩=some (.int .i64 pt)/\w'.cell? ⟨g1,o1+k*4+2,none⟩=some (.string pk)/\w'.cell? ⟨g1,o1+k*4+3,none⟩=some (.int .i64 pn))/\w'.cell? ⟨g2,o2+k*4,none⟩=some (.int .i64 pi)/\w'.cell? ⟨g2,o2+k*4+1,none⟩=some (.int .i64 pt)/\w'.cell? ⟨g2,o2+k*4+2,none⟩=some (.string pk)/\w'.cell? ⟨g2,o2+k*4+3,none⟩=some (.int .i64 pn)) (go_keep)
    (first
     |(go_at_call 130;refine(UA _).mono ?_;rintro e w5 ⟨rfl,hb5⟩;have hb6:aI wr w5:=⟨hb5.os,hb5.tape,hb5.output,hb5.size,hb5.block⟩;clear hb5;have fG:=Hq (cK.trans (hb6.mono cK.size));have y0:=(hb6.cell (p:=⟨g1,o1+k*4,none⟩) hg1).trans s0;have y1:=(hb6.cell (p:=⟨g1,o1+k*4+1,none⟩) hg1).trans s1;have y2:=(hb6.cell (p:=⟨g1,o1+k*4+2,none⟩) hg1).trans s2;have y3:=(hb6.cell (p:=⟨g1,o1+k*4+3,none⟩) hg1).trans s3;have z0:=(hb6.cell (p:=⟨g2,o2+k*4,none⟩) hg2).trans t0;have z1:=(hb6.cell (p:=⟨g2,o2+k*4+1,none⟩) hg2).trans t1;have z2:=(hb6.cell (p:=⟨g2,o2+k*4+2,none⟩) hg2).trans t2;have z3:=(hb6.cell (p:=⟨g2,o2+k*4+3,none⟩) hg2).trans t3;clear hb6))
   all_goals
    go_wp2_with fail
    go_roundw
    case rel=>exact⟨k+1,Aaa,Aah,fG⟩
    case measure=>simp[intOf];omega
  .exact R7
theorem ae8 (ca:Nat) (l:List jK) (z0:Int) (w:World) (h0:0<=z0) (h1:z0<=1048576) (hl:l.length<=maxLen) (hks:∀p∈l,p.k.size<=maxLen) (ha:SentAt w a l):
 Calls prog 41 #[.slice a l.length ca,.int .i64 z0] w λe w'=>∃r:Int,e= .returned (.int .i64 r)/\aI w w'/\(r= -1\/0<=r/\r<=1048576/\l.length<=1048576/\∀p∈l,p.k.size<=1048576):=by
 have HA:=Hq ha;clear ha;unfold maxLen at hl;by_cases hbig:(l.length:Int)<=z0
 .have hn:¬(z0 - (l.length:Int) < 0):=Aaa
  go_in
  go_wp2_with fail;go_loopw [1,5] (λlf i wr=>∃(k:Nat) (z:Int),k<=l.length/\i= .int .i64 k/\lf= .int .i64 z/\0<=z/\z<=1048576/\(∀p∈l.take k,p.k.size<=1048576)/\aI w wr) (λ_ i _=>l.length - (intOf i).toNat)
  case atStart=>exact Wv
  case round=>
   open aqS in exact Jh
 .have hn:z0 - (l.length:Int) < 0:=Aaa
  go_in
  exact Vg
abbrev fU (w:World) (a:Option Addr) (l:List Rq):Prop:=GR.At aL 4 w a l
abbrev ZI (p:Rq):Value:= .agg (fA p.no p.k p.n p.s)
theorem fU.four {a:Option Addr} {l:List Rq} (h:fU w a l) (i:Nat) (hi:i < l.length):∃g off,a=some ⟨g,off,none⟩/\g < w.heap.size/\w.cell? ⟨g,off+i*4,none⟩=some (.int .i64 l[i].no)/\w.cell? ⟨g,off+i*4+1,none⟩=some (.string l[i].k)/\w.cell? ⟨g,off+i*4+2,none⟩=some (.int .i64 l[i].n)/\w.cell? ⟨g,off+i*4+3,none⟩=some (.int .i64 l[i].s):=by
 exact ajU
abbrev pz (w:World) (g:Nat) (l:List Rq):Prop:=GR.Blk aL 95 w g l
theorem pz.four {l:List Rq} (h:pz w g l) (i:Nat) (hi:i < l.length):w.cell? ⟨g,i*4,none⟩=some (.int .i64 l[i].no)/\w.cell? ⟨g,i*4+1,none⟩=some (.string l[i].k)/\w.cell? ⟨g,i*4+2,none⟩=some (.int .i64 l[i].n)/\w.cell? ⟨g,i*4+3,none⟩=some (.int .i64 l[i].s):=
 ⟨by simpa using GR.Blk.cell h aR i hi 0 Aaa,by simpa using GR.Blk.cell h aR i hi 1 Aaa,by simpa using GR.Blk.cell h aR i hi 2 Aaa,by simpa using GR.Blk.cell h aR i hi 3 Aaa⟩
theorem pz.step {l:List Rq} (h:pz w g l) (hb:aI w w'):pz w' g l:=by
 have hl:=GR.Blk.lt h;unfold pz GR.Blk at *;rw [hb.block g hl];exact h
theorem zB:(prog.info? 95).map (λi=>(i.zero,i.size,i.bytes))=some (some (.agg (fA 0 ByteArray.empty 0 0)),4,40):=Aab
theorem aeL (n:Nat) (hn:n<=2000000):∀W:World,(Instr.makeSlice 38 (.int .i64 (n:Int)) (.int .i64 (n:Int))).run prog W= .ok (.slice (some ⟨W.heap.size,0,none⟩) n n) (W.alloc (.cells (GR.flat aL (List.replicate n ⟨0,ByteArray.empty,0,0⟩)).toArray 95)):=by
 obtain⟨i0,hi,hz0,hz1,hz2⟩:=info_parts zB;intro W;have h:=run_make (P:=prog) W 38 95 i0 (.agg (fA 0 ByteArray.empty 0 0)) underlying38 hi hz0 .i64 .i64 (n:Int) (n:Int) Aaa Aaa Abd Aaa;rw [hz1] at h;have e:=GR.made_flat aL 4 aR Aaa ⟨0,ByteArray.empty,0,0⟩ (Value.cells (.agg (fA 0 ByteArray.empty 0 0))) rfl n;exact Ef
theorem azp (p:Rq) (w:World):Calls prog 115 #[ZI p] w (eG w (ZI p)):=by
 obtain⟨pno,pk,pn,ps⟩:=p;go_in
 go_wp2_with fail;refine bodyPost_ret (v:= .agg (fA pno pk pn ps)) (by simp[results,results115,go_sem]) rfl ⟨rfl,?_⟩;exact Vd
theorem axQ (p:Rq) (w:World):Calls prog 132 #[ZI p,ZI p] w (eG w (.bool true)):=by
 obtain⟨pno,pk,pn,ps⟩:=p;go_in
 exact Vb
theorem QT (l:List Rq) (z:Rq) (k:Nat) (hk:k < l.length):(l.take k++List.replicate (l.length - k) z).set k l[k]=l.take (k+1)++List.replicate (l.length - (k+1)) z:=by
 exact aaH
theorem ak3 (cap:Nat) (l:List Rq) (w:World) (hl:l.length<=1048576) (ha:fU w a l):
 Calls prog 63 #[.slice a l.length cap] w λe w'=>e= .returned (.slice (some ⟨w.heap.size,0,none⟩) l.length l.length)/\pz w' w.heap.size l/\aI w w':=by
 have hmk:=aeL l.length Aaa;have HA:=Hq ha;clear ha;go_in
 go_wp2_with fail;go_loopw [4] (λi wr=>∃k:Nat,k<=l.length/\i= .int .i64 k/\pz wr w.heap.size (l.take k++List.replicate (l.length - k) ⟨0,ByteArray.empty,0,0⟩)/\aI w wr) (λi _=>l.length - (intOf i).toNat)
 case atStart=>exact⟨0,Nat.zero_le _,rfl,by unfold pz GR.Blk;rw [List.take_zero,List.nil_append,Nat.sub_zero];exact heap_alloc_new w _,dS w _⟩
 case round=>
  open ap4 in exact R4
theorem azo (p:Rq) (left:Int) (w:World) (h0:0<=left) (h1:left<=1048576) (hk:p.k.size<=maxLen):Calls prog 98 #[ZI p,.int .i64 left] w λe w'=>e= .returned (.int .i64 (if (p.k.size:Int)<=left then left - p.k.size else -1))/\aI w w':=by
 obtain⟨pno,pk,pn,ps⟩:=p;dsimp only at hk ⊢;unfold maxLen at hk;by_cases hc:(pk.size:Int)<=left
 .rw [if_pos hc];have hn:¬(left - (pk.size:Int) < 0):=Aaa
  go_in
  exact Ww
 .rw [if_neg hc];have hn:left - (pk.size:Int) < 0:=Aaa
  go_in
  exact Ww
theorem aj8 (a b:Option Addr) (ca cb:Nat) (l:List Rq) (w:World) (hl:l.length<=1048600) (ha:fU w a l) (hb:fU w b l):
 Calls prog 77 #[.slice a l.length ca,.slice b l.length cb] w (eG w (.bool true)):=by
 have HA:=Hq ha;have HB:=Hq hb;clear ha hb;go_in
 go_wp2_with fail;go_loopw [5] (λi wr=>∃k:Nat,k<=l.length/\i= .int .i64 k/\aI w wr) (λi _=>l.length - (intOf i).toNat)
 case atStart=>exact AQ
 case round=>
  obtain⟨k,hk,rfl,hbel⟩:=hrel;have cK:=Hq hbel;clear hbel;by_cases hlt:k < l.length
  .obtain⟨g1,o1,rfl,hg1,s0,s1,s2,s3⟩:=fU.four (GR.At.below HA cK) k hlt;obtain⟨g2,o2,rfl,hg2,t0,t1,t2,t3⟩:=fU.four (GR.At.below HB cK) k hlt;generalize l[k]=pu at *;have UA:=Hq (λw1=>axQ pu w1);obtain⟨pno,pk,pn,ps⟩:=pu;dsimp only at s0 s1 s2 s3 t0 t1 t2 t3;go_wp2_with fail
   go_region_held (λw'=>(w'.cell? ⟨g1,o1+k*4,none⟩=some (.int .i64 pno)/\w'.cell? ⟨g1,o1+k*4+1,none⟩=some (.string pk)/\w'.cell? ⟨g1,o1+k*4+2,none⟩=some (.int .i64 pn)/\w'.cell? ⟨g1,o1+k*4+3,none⟩=some (.int .i64 ps))/\w'.cell? ⟨g2,o2+k*4,none⟩=some (.int .i64 pno)/\w'.cell? ⟨g2,o2+k*4+1,none⟩=some (.string pk)/\w'.cell? ⟨g2,o2+k*4+2,none⟩=some (.int .i64 pn)/\w'.cell? ⟨g2,o2+k*4+3,none⟩=some (.int .i64 ps)) (go_keep)
    (first
     |(go_at_call 132;refine(UA _).mono ?_;rintro e w5 ⟨rfl,hb5⟩;have hb6:aI wr w5:=⟨hb5.os,hb5.tape,hb5.output,hb5.size,hb5.block⟩;clear hb5;have fG:=Hq (cK.trans (hb6.mono cK.size));have y0:=(hb6.cell (p:=⟨g1,o1+k*4,none⟩) hg1).trans s0;have y1:=(hb6.cell (p:=⟨g1,o1+k*4+1,none⟩) hg1).trans s1;have y2:=(hb6.cell (p:=⟨g1,o1+k*4+2,none⟩) hg1).trans s2;have y3:=(hb6.cell (p:=⟨g1,o1+k*4+3,none⟩) hg1).trans s3;have z0:=(hb6.cell (p:=⟨g2,o2+k*4,none⟩) hg2).trans t0;have z1:=(hb6.cell (p:=⟨g2,o2+k*4+1,none⟩) hg2).trans t1;have z2:=(hb6.cell (p:=⟨g2,o2+k*4+2,none⟩) hg2).trans t2;have z3:=(hb6.cell (p:=⟨g2,o2+k*4+3,none⟩) hg2).trans t3;clear hb6))
   all_goals
    go_wp2_with fail
    go_roundw
    case rel=>exact⟨k+1,Aaa,Aah,fG⟩
    case measure=>simp[intOf];omega
  .exact R7
theorem akY (ca:Nat) (l:List Rq) (z0:Int) (w:World) (h0:0<=z0) (h1:z0<=1048576) (hl:l.length<=maxLen) (hks:∀p∈l,p.k.size<=maxLen) (ha:fU w a l):
 Calls prog 43 #[.slice a l.length ca,.int .i64 z0] w λe w'=>∃r:Int,e= .returned (.int .i64 r)/\aI w w'/\(r= -1\/0<=r/\r<=1048576/\l.length<=1048576/\∀p∈l,p.k.size<=1048576):=by
 have HA:=Hq ha;clear ha;unfold maxLen at hl;by_cases hbig:(l.length:Int)<=z0
 .have hn:¬(z0 - (l.length:Int) < 0):=Aaa
  go_in
  go_wp2_with fail;go_loopw [1,5] (λlf i wr=>∃(k:Nat) (z:Int),k<=l.length/\i= .int .i64 k/\lf= .int .i64 z/\0<=z/\z<=1048576/\(∀p∈l.take k,p.k.size<=1048576)/\aI w wr) (λ_ i _=>l.length - (intOf i).toNat)
  case atStart=>exact Wv
  case round=>
   open aqT in exact Jh
 .have hn:z0 - (l.length:Int) < 0:=Aaa
  go_in
  exact Vg
end Go.Proofs.YtohmklmkjmlpjaaGreatDoor
