/- Parts. -/
import Derived.Test.YtohmklmkjmlpjaaGreatDoorRk7
import Derived.Test.YtohmklmkjmlpjaaGreatDoorRk12
namespace Go.Proofs.YtohmklmkjmlpjaaGreatDoor
open Go.Proofs.Tryz
set_option maxHeartbeats 2000000
set_option maxRecDepth 100000
open Go.RowKit
open Mth
variable {w:World} {l:List Rq} {g:Nat}
abbrev gF (w:World) (a:Option Addr) (l:List Rq):Prop:=GR.At aJ 4 w a l
abbrev aal (p:Rq):Value:= .agg (dZ p.no p.k p.n p.s)
theorem gF.four {a:Option Addr} (h:gF w a l) (i:Nat) (hi:i < l.length):∃g off,a=some ⟨g,off,none⟩/\g < w.heap.size/\w.cell? ⟨g,off+i*4,none⟩=some (.int .i64 l[i].no)/\w.cell? ⟨g,off+i*4+1,none⟩=some (.string l[i].k)/\w.cell? ⟨g,off+i*4+2,none⟩=some (.int .i64 l[i].n)/\w.cell? ⟨g,off+i*4+3,none⟩=some (.int .i64 l[i].s):=by
 exact ak5
abbrev pO (w:World) (g:Nat) (l:List Rq):Prop:=GR.Blk aJ 95 w g l
theorem pO.four (h:pO w g l) (i:Nat) (hi:i < l.length):w.cell? ⟨g,i*4,none⟩=some (.int .i64 l[i].no)/\w.cell? ⟨g,i*4+1,none⟩=some (.string l[i].k)/\w.cell? ⟨g,i*4+2,none⟩=some (.int .i64 l[i].n)/\w.cell? ⟨g,i*4+3,none⟩=some (.int .i64 l[i].s):=
 ⟨by simpa using GR.Blk.cell h aS i hi 0 Aaa,by simpa using GR.Blk.cell h aS i hi 1 Aaa,by simpa using GR.Blk.cell h aS i hi 2 Aaa,by simpa using GR.Blk.cell h aS i hi 3 Aaa⟩
theorem pO.step {w':World} (h:pO w g l) (hb:aI w w'):pO w' g l:=by
 have hl:=GR.Blk.lt h;unfold pO GR.Blk at *;rw [hb.block g hl];exact h
theorem wD:(prog.info? 95).map (λi=>(i.zero,i.size,i.bytes))=some (some (.agg (dZ 0 ByteArray.empty 0 0)),4,40):=Aab
theorem afo (n:Nat) (hn:n<=2000000):∀W:World,(Instr.makeSlice 38 (.int .i64 (n:Int)) (.int .i64 (n:Int))).run prog W= .ok (.slice (some ⟨W.heap.size,0,none⟩) n n) (W.alloc (.cells (GR.flat aJ (List.replicate n ⟨0,ByteArray.empty,0,0⟩)).toArray 95)):=by
 obtain⟨i0,hi,hz0,hz1,hz2⟩:=info_parts wD;intro W;have h:=run_make (P:=prog) W 38 95 i0 (.agg (dZ 0 ByteArray.empty 0 0)) underlying38 hi hz0 .i64 .i64 (n:Int) (n:Int) Aaa Aaa Abc Aaa;rw [hz1] at h;have e:=GR.made_flat aJ 4 aS Aaa ⟨0,ByteArray.empty,0,0⟩ (Value.cells (.agg (dZ 0 ByteArray.empty 0 0))) rfl n;exact En
theorem aDm (p:Rq) (w:World):Calls prog 115 #[aal p] w (eO w (aal p)):=by
 obtain⟨pno,pk,pn,ps⟩:=p;go_in
 go_wp2_with fail;refine bodyPost_ret (v:= .agg (dZ pno pk pn ps)) (by simp[results,results115,go_sem]) rfl ⟨rfl,?_⟩;exact Vu
theorem aBY (p:Rq) (w:World):Calls prog 132 #[aal p,aal p] w (eO w (.bool true)):=by
 obtain⟨pno,pk,pn,ps⟩:=p;go_in
 exact Vt
theorem Q8 (l:List Rq) (z:Rq) (k:Nat) (hk:k < l.length):(l.take k++List.replicate (l.length - k) z).set k l[k]=l.take (k+1)++List.replicate (l.length - (k+1)) z:=by
 exact abj
theorem amb (a:Option Addr) (cap:Nat) (l:List Rq) (w:World) (hl:l.length<=1048576) (ha:gF w a l):
 Calls prog 63 #[.slice a l.length cap] w λe w'=>e= .returned (.slice (some ⟨w.heap.size,0,none⟩) l.length l.length)/\pO w' w.heap.size l/\aI w w':=by
 have hmk:=afo l.length Aaa;have HA:=Hq ha;clear ha;go_in
 go_wp2_with fail;go_loopw [4] (λi wr=>∃k:Nat,k<=l.length/\i= .int .i64 k/\pO wr w.heap.size (l.take k++List.replicate (l.length - k) ⟨0,ByteArray.empty,0,0⟩)/\aI w wr) (λi _=>l.length - (intOf i).toNat)
 case atStart=>exact⟨0,Nat.zero_le _,rfl,by unfold pO GR.Blk;rw [List.take_zero,List.nil_append,Nat.sub_zero];exact heap_alloc_new w _,dU w _⟩
 case round=>
  open asV in exact El
theorem aDl (p:Rq) (left:Int) (w:World) (h0:0<=left) (h1:left<=1048576) (hk:p.k.size<=maxLen):Calls prog 98 #[aal p,.int .i64 left] w λe w'=>e= .returned (.int .i64 (if (p.k.size:Int)<=left then left - p.k.size else -1))/\aI w w':=by
 obtain⟨pno,pk,pn,ps⟩:=p;dsimp only at hk ⊢;unfold maxLen at hk;by_cases hc:(pk.size:Int)<=left
 .rw [if_pos hc];have hn:¬(left - (pk.size:Int) < 0):=Aaa
  go_in
  exact Xd
 .rw [if_neg hc];have hn:left - (pk.size:Int) < 0:=Aaa
  go_in
  exact Xd
theorem ali (a b:Option Addr) (ca cb:Nat) (l:List Rq) (w:World) (hl:l.length<=1048600) (ha:gF w a l) (hb:gF w b l):
 Calls prog 77 #[.slice a l.length ca,.slice b l.length cb] w (eO w (.bool true)):=by
 have HA:=Hq ha;have HB:=Hq hb;clear ha hb;go_in
 go_wp2_with fail;go_loopw [5] (λi wr=>∃k:Nat,k<=l.length/\i= .int .i64 k/\aI w wr) (λi _=>l.length - (intOf i).toNat)
 case atStart=>exact AZ
 case round=>
  obtain⟨k,hk,rfl,hbel⟩:=hrel;have cZ:=Hq hbel;clear hbel;by_cases hlt:k < l.length
  .obtain⟨g1,o1,rfl,hg1,s0,s1,s2,s3⟩:=gF.four (GR.At.below HA cZ) k hlt;obtain⟨g2,o2,rfl,hg2,t0,t1,t2,t3⟩:=gF.four (GR.At.below HB cZ) k hlt;generalize l[k]=pu at *;have UJ:=Hq (λw1=>aBY pu w1);obtain⟨pno,pk,pn,ps⟩:=pu;dsimp only at s0 s1 s2 s3 t0 t1 t2 t3;go_wp2_with fail
   go_region_held (λw'=>(w'.cell? ⟨g1,o1+k*4,none⟩=some (.int .i64 pno)/\w'.cell? ⟨g1,o1+k*4+1,none⟩=some (.string pk)/\w'.cell? ⟨g1,o1+k*4+2,none⟩=some (.int .i64 pn)/\w'.cell? ⟨g1,o1+k*4+3,none⟩=some (.int .i64 ps))/\w'.cell? ⟨g2,o2+k*4,none⟩=some (.int .i64 pno)/\w'.cell? ⟨g2,o2+k*4+1,none⟩=some (.string pk)/\w'.cell? ⟨g2,o2+k*4+2,none⟩=some (.int .i64 pn)/\w'.cell? ⟨g2,o2+k*4+3,none⟩=some (.int .i64 ps)) (go_keep)
    (first
     |(go_at_call 132;refine(UJ _).mono ?_;rintro e w5 ⟨rfl,hb5⟩;have hb6:aI wr w5:=⟨hb5.os,hb5.tape,hb5.output,hb5.size,hb5.block⟩;clear hb5;have fO:=Hq (cZ.trans (hb6.mono cZ.size));have y0:=(hb6.cell (p:=⟨g1,o1+k*4,none⟩) hg1).trans s0;have y1:=(hb6.cell (p:=⟨g1,o1+k*4+1,none⟩) hg1).trans s1;have y2:=(hb6.cell (p:=⟨g1,o1+k*4+2,none⟩) hg1).trans s2;have y3:=(hb6.cell (p:=⟨g1,o1+k*4+3,none⟩) hg1).trans s3;have z0:=(hb6.cell (p:=⟨g2,o2+k*4,none⟩) hg2).trans t0;have z1:=(hb6.cell (p:=⟨g2,o2+k*4+1,none⟩) hg2).trans t1;have z2:=(hb6.cell (p:=⟨g2,o2+k*4+2,none⟩) hg2).trans t2;have z3:=(hb6.cell (p:=⟨g2,o2+k*4+3,none⟩) hg2).trans t3;clear hb6))
   all_goals
    go_wp2_with fail
    go_roundw
    case rel=>exact⟨k+1,Aaa,Aah,fO⟩
    case measure=>simp[intOf];omega
  .exact Sk
theorem al6 (a:Option Addr) (ca:Nat) (l:List Rq) (z0:Int) (w:World) (h0:0<=z0) (h1:z0<=1048576) (hl:l.length<=maxLen) (hks:∀p∈l,p.k.size<=maxLen) (ha:gF w a l):
 Calls prog 43 #[.slice a l.length ca,.int .i64 z0] w λe w'=>∃r:Int,e= .returned (.int .i64 r)/\aI w w'/\(r= -1\/0<=r/\r<=1048576/\l.length<=1048576/\∀p∈l,p.k.size<=1048576):=by
 have HA:=Hq ha;clear ha;unfold maxLen at hl;by_cases hbig:(l.length:Int)<=z0
 .have hn:¬(z0 - (l.length:Int) < 0):=Aaa
  go_in
  go_wp2_with fail;go_loopw [1,5] (λlf i wr=>∃(k:Nat) (z:Int),k<=l.length/\i= .int .i64 k/\lf= .int .i64 z/\0<=z/\z<=1048576/\(∀p∈l.take k,p.k.size<=1048576)/\aI w wr) (λ_ i _=>l.length - (intOf i).toNat)
  case atStart=>exact Xc
  case round=>
   open aul in exact Jf
 .have hn:z0 - (l.length:Int) < 0:=Aaa
  go_in
  exact Vx
end Go.Proofs.YtohmklmkjmlpjaaGreatDoor
