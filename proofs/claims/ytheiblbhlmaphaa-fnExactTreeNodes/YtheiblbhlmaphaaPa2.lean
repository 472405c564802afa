/-
  PuBase, PuRows, PuLoops, PuSz, NdInts, NdRowsT, NdRowsR, Bytes, Rows2, RowW.
-/
import Derived.Test.YtheiblbhlmaphaaPa1
import Derived.Test.YtheiblbhlmaphaaPaZ2
import Derived.Deep.RegionHeld
import Derived.Deep.QuietTactic
import Derived.BigQuiet
import Derived.Laws.IdiomStrings
import Derived.Laws.BytesString
import Derived.Laws.AppendOwnNone
import Derived.Maps.AppendAt
import Derived.Laws.OwnMore
namespace Go.Proofs.Ytheiblbhlmaphaa
open Go.RowKit
open Mth
theorem below_one' (w:World) (o:Obj):Below w.heap.size w (w.alloc o):=(Below.refl _ _).alloc (Nat.le_refl _) _
theorem infoPu:(Try.prog.info? 67).map (fun i=>(i.zero,i.size,i.bytes))=some (some (.agg #[.string ByteArray.empty,.int .i64 0,.int .i64 0,.int .i64 0]),4,40):=by kernel_rfl
theorem PursesAt.news {w:World} {x:Addr} {l:List Pu} (h:PursesAt w (some x) l):∀j u,(GR.flat encP l)[j]?=some u→w.cell? (x.add j)=some u:=by
 intro j u hu
 have hj:j < l.length*4:=by
  have:=(List.getElem?_eq_some_iff.1 hu).1;rwa [GR.flat_length encP 4 encP_length] at this
 obtain⟨g,off,e,hg,hc⟩:=h (j / 4) (by omega);have hf:=GR.flat_at encP 4 encP_length l (j / 4) (by omega) (j % 4) (by omega);have ej:j / 4*4+j % 4=j:=by omega
 rw [ej] at hf;have h2:=hc (j % 4) (by omega);exact Za22
theorem encP_one (l:List Pu):∀u∈GR.flat encP l,u.oneCell'=true:=by
 intro u hu;unfold GR.flat at hu;rw [List.mem_flatMap] at hu;obtain⟨p,_,hp⟩:=hu;simp only[encP,List.mem_cons,List.not_mem_nil,or_false] at hp;rcases hp with rfl|rfl|rfl|rfl<;>rfl
set_option maxRecDepth 100000
abbrev puBlk (w:World) (g:Nat) (l:List Pu):Prop:=GR.Blk encP 67 w g l
theorem puBlk.four {w:World} {g:Nat} {l:List Pu} (h:puBlk w g l) (i:Nat) (hi:i < l.length):w.cell? ⟨g,i*4,none⟩=some (.string l[i].k)∧w.cell? ⟨g,i*4+1,none⟩=some (.int .i64 l[i].m)∧w.cell? ⟨g,i*4+2,none⟩=some (.int .i64 l[i].f)∧w.cell? ⟨g,i*4+3,none⟩=some (.int .i64 l[i].s):=
 ⟨by simpa using GR.Blk.cell h encP_length i hi 0 (by omega),by simpa using GR.Blk.cell h encP_length i hi 1 (by omega),by simpa using GR.Blk.cell h encP_length i hi 2 (by omega),by simpa using GR.Blk.cell h encP_length i hi 3 (by omega)⟩
theorem blkstep {w w':World} {g:Nat} {l:List Pu} (h:puBlk w g l) (hb:Below w.heap.size w w'):puBlk w' g l:=by
 have hl:=GR.Blk.lt h;unfold puBlk GR.Blk at *;rw [hb.block g hl];exact h
theorem make_purses (n:Nat) (hn:n≤2000000):∀W:World,(Instr.makeSlice 37 (.int .i64 (n:Int)) (.int .i64 (n:Int))).run Try.prog W= .ok (.slice (some ⟨W.heap.size,0,none⟩) n n) (W.alloc (.cells (GR.flat encP (List.replicate n ⟨ByteArray.empty,0,0,0⟩)).toArray 67)):=by
 obtain⟨i0,hi,hz0,hz1,hz2⟩:=info_parts infoPu;intro W;have h:=run_make (P:=Try.prog) W 37 67 i0 (.agg #[.string ByteArray.empty,.int .i64 0,.int .i64 0,.int .i64 0]) Try.underlying37 hi hz0 .i64 .i64 (n:Int) (n:Int) (by omega) (by omega) (by rw [hz2];omega) (by omega);rw [hz1] at h;have e:=GR.made_flat encP 4 encP_length (by omega) ⟨ByteArray.empty,0,0,0⟩ (Value.agg #[.string ByteArray.empty,.int .i64 0,.int .i64 0,.int .i64 0]).cells rfl n;exact Za18
theorem eqPurse (p:Pu) (w:World):Calls Try.prog 58 #[puv p,puv p] w fun e w'=>e= .returned (.bool true)∧Below w.heap.size w w':=by
 obtain⟨k,m,f,s⟩:=p;go_enter Try.func58,Try.ntmps58
 exact Za17
theorem take_set_pu (l:List Pu) (z:Pu) (k:Nat) (hk:k < l.length):(l.take k++List.replicate (l.length - k) z).set k l[k]=l.take (k+1)++List.replicate (l.length - (k+1)) z:=by
 exact Za4
set_option maxHeartbeats 2000000
theorem eqPurseS (a b:Option Addr) (ca cb:Nat) (l:List Pu) (w:World) (hl:l.length≤1048600) (ha:PursesAt w a l) (hb:PursesAt w b l):
 Calls Try.prog 39 #[.slice a l.length ca,.slice b l.length cb] w fun e w'=>e= .returned (.bool true)∧Below w.heap.size w w':=by
 have HA:=hide ha;have HB:=hide hb;clear ha hb;go_enter Try.func39,Try.ntmps39
 go_wp2_with fail;go_loopw [5] (fun i wr=>∃k:Nat,k≤l.length∧i= .int .i64 k∧Below w.heap.size w wr) (fun i _=>l.length - (intOf i).toNat)
 case atStart=>exact Za25
 case round=>
  obtain⟨k,hk,rfl,hbel⟩:=hrel;have HBL:=hide hbel;clear hbel;by_cases hlt:k < l.length
  ·obtain⟨g1,o1,rfl,hg1,s0,s1,s2,s3⟩:=PursesAt.four (GR.At.below HA HBL) k hlt;obtain⟨g2,o2,rfl,hg2,t0,t1,t2,t3⟩:=PursesAt.four (GR.At.below HB HBL) k hlt;generalize l[k]=pu at *;have HEQ:=hide (fun w1=>eqPurse pu w1);obtain⟨pk,pm,pf,ps⟩:=pu;dsimp only at s0 s1 s2 s3 t0 t1 t2 t3;go_wp2_with fail
   go_region_held (fun w'=>(w'.cell? ⟨g1,o1+k*4,none⟩=some (.string pk)∧w'.cell? ⟨g1,o1+k*4+1,none⟩=some (.int .i64 pm)∧w'.cell? ⟨g1,o1+k*4+2,none⟩=some (.int .i64 pf)∧w'.cell? ⟨g1,o1+k*4+3,none⟩=some (.int .i64 ps))∧w'.cell? ⟨g2,o2+k*4,none⟩=some (.string pk)∧w'.cell? ⟨g2,o2+k*4+1,none⟩=some (.int .i64 pm)∧w'.cell? ⟨g2,o2+k*4+2,none⟩=some (.int .i64 pf)∧w'.cell? ⟨g2,o2+k*4+3,none⟩=some (.int .i64 ps)) (go_keep)
    (first
     |(go_at_call 58;refine(HEQ _).mono ?_;rintro e w5 ⟨rfl,hb5⟩;have hb6:Below wr.heap.size wr w5:=⟨hb5.os,hb5.tape,hb5.output,hb5.size,hb5.block⟩;clear hb5;have HBL5:=hide (HBL.trans (hb6.mono HBL.size));have y0:=(hb6.cell (p:=⟨g1,o1+k*4,none⟩) hg1).trans s0;have y1:=(hb6.cell (p:=⟨g1,o1+k*4+1,none⟩) hg1).trans s1;have y2:=(hb6.cell (p:=⟨g1,o1+k*4+2,none⟩) hg1).trans s2;have y3:=(hb6.cell (p:=⟨g1,o1+k*4+3,none⟩) hg1).trans s3;have z0:=(hb6.cell (p:=⟨g2,o2+k*4,none⟩) hg2).trans t0;have z1:=(hb6.cell (p:=⟨g2,o2+k*4+1,none⟩) hg2).trans t1;have z2:=(hb6.cell (p:=⟨g2,o2+k*4+2,none⟩) hg2).trans t2;have z3:=(hb6.cell (p:=⟨g2,o2+k*4+3,none⟩) hg2).trans t3;clear hb6))
   all_goals
    go_wp2_with fail
    go_roundw
    case rel=>exact⟨k+1,by omega,by go_num,HBL5⟩
    case measure=>simp[intOf];omega
  ·exact Za5
set_option maxHeartbeats 2000000
abbrev IntsAt (w:World) (a:Option Addr) (l:List Int):Prop:=GR.At encNum 1 w a l
theorem IntsAt.one {w:World} {a:Option Addr} {l:List Int} (h:IntsAt w a l) (i:Nat) (hi:i < l.length):∃g off,a=some ⟨g,off,none⟩∧g < w.heap.size∧w.cell? ⟨g,off+i,none⟩=some (.int .i64 l[i]):=by
 obtain⟨g,off,e,hg,hc⟩:=h i hi;refine⟨g,off,e,hg,?_⟩;simpa using hc 0 (by omega)
abbrev intBlk (w:World) (g:Nat) (l:List Int):Prop:=GR.Blk encNum 3 w g l
theorem intBlk.one {w:World} {g:Nat} {l:List Int} (h:intBlk w g l) (i:Nat) (hi:i < l.length):w.cell? ⟨g,i,none⟩=some (.int .i64 l[i]):=by
 simpa using GR.Blk.cell h encNum_length i hi 0 (by omega)
theorem intBlk.step {w w':World} {g:Nat} {l:List Int} (h:intBlk w g l) (hb:Below w.heap.size w w'):intBlk w' g l:=by
 have hl:=GR.Blk.lt h;unfold intBlk GR.Blk at *;rw [hb.block g hl];exact h
theorem infoInt:(Try.prog.info? 3).map (fun i=>(i.zero,i.size,i.bytes))=some (some (.int .i64 0),1,8):=by kernel_rfl
theorem makeInts (n:Nat) (hn:n≤2000000):∀W:World,(Instr.makeSlice 22 (.int .i64 (n:Int)) (.int .i64 (n:Int))).run Try.prog W= .ok (.slice (some ⟨W.heap.size,0,none⟩) n n) (W.alloc (.cells (GR.flat encNum (List.replicate n 0)).toArray 3)):=by
 obtain⟨i0,hi,hz0,hz1,hz2⟩:=info_parts infoInt;intro W;have h:=run_make (P:=Try.prog) W 22 3 i0 (.int .i64 0) Try.underlying22 hi hz0 .i64 .i64 (n:Int) (n:Int) (by omega) (by omega) (by rw [hz2];omega) (by omega);rw [hz1] at h;have e:=GR.made_flat encNum 1 encNum_length (by omega) 0 (Value.cells (.int .i64 0)) rfl n;exact Za18
theorem take_setI (l:List Int) (z:Int) (k:Nat) (hk:k < l.length):(l.take k++List.replicate (l.length - k) z).set k l[k]=l.take (k+1)++List.replicate (l.length - (k+1)) z:=by
 exact Za4
theorem toIntS (a:Option Addr) (cap:Nat) (l:List Int) (w:World) (hl:l.length≤1048576) (ha:IntsAt w a l):
 Calls Try.prog 17 #[.slice a l.length cap] w fun e w'=>e= .returned (.slice (some ⟨w.heap.size,0,none⟩) l.length l.length)∧intBlk w' w.heap.size l∧Below w.heap.size w w':=by
 have hmk:=makeInts l.length (by omega);have HA:=hide ha;clear ha;go_enter Try.func17,Try.ntmps17
 go_wp2_with fail;go_loopw [4] (fun i wr=>∃k:Nat,k≤l.length∧i= .int .i64 k∧intBlk wr w.heap.size (l.take k++List.replicate (l.length - k) 0)∧Below w.heap.size w wr) (fun i _=>l.length - (intOf i).toNat)
 case atStart=>exact⟨0,Nat.zero_le _,rfl,by unfold intBlk GR.Blk;rw [List.take_zero,List.nil_append,Nat.sub_zero];exact heap_alloc_new w _,below_one' w _⟩
 case round=>
  obtain⟨k,hk,rfl,hB,hbel⟩:=hrel;have HB:=hide hB;have HBL:=hide hbel;clear hB hbel hmk;by_cases hlt:k < l.length
  ·obtain⟨g,off,rfl,hgw,q0⟩:=IntsAt.one (GR.At.below HA HBL) k hlt;have TS:=hide (take_setI l 0 k hlt);generalize l[k]=pu at *;have hln:(l.take k++List.replicate (l.length - k) (0:Int)).length=l.length:=by simp;omega
   have s0:=intBlk.one HB k (by omega);have f0:=GR.Blk.free HB k;go_wp2_with fail;first|go_region|skip
   go_roundw
   case rel=>
    have h:=GR.Blk.set HB encNum_length k (by omega) pu;rw [unhide TS] at h;have h2:=GR.setW_below (o:=k*1) (Nat.le_refl w.heap.size) (encNum pu) HBL;rw [Nat.mul_one] at h h2;exact⟨k+1,by omega,by go_num,h,h2⟩
   case measure=>simp[intOf];omega
  ·open Sa15 in exact Ya5
theorem eqIntS (a b:Option Addr) (ca cb:Nat) (l:List Int) (w:World) (hl:l.length≤1048600) (ha:IntsAt w a l) (hb:IntsAt w b l):
 Calls Try.prog 22 #[.slice a l.length ca,.slice b l.length cb] w fun e w'=>e= .returned (.bool true)∧Below w.heap.size w w':=by
 have HA:=hide ha;have HB:=hide hb;clear ha hb;go_enter Try.func22,Try.ntmps22
 go_wp2_with fail;go_loopw [5] (fun i wr=>∃k:Nat,k≤l.length∧i= .int .i64 k∧Below w.heap.size w wr) (fun i _=>l.length - (intOf i).toNat)
 case atStart=>exact Za25
 case round=>
  obtain⟨k,hk,rfl,hbel⟩:=hrel;have HBL:=hide hbel;clear hbel;by_cases hlt:k < l.length
  ·obtain⟨g1,o1,rfl,hg1,s0⟩:=IntsAt.one (GR.At.below HA HBL) k hlt;obtain⟨g2,o2,rfl,hg2,t0⟩:=IntsAt.one (GR.At.below HB HBL) k hlt;generalize l[k]=pu at *;go_wp2_with fail;go_quiet (fail);go_wp2_with fail;go_roundw
   case rel=>exact⟨k+1,by omega,by go_num,HBL.trans ⟨rfl,rfl,rfl,Nat.le_refl _,fun _ _=>rfl⟩⟩
   case measure=>simp[intOf];omega
  ·exact Za5
theorem szIntS (a:Option Addr) (ca:Nat) (l:List Int) (z0:Int) (w:World) (h0:0≤z0) (h1:z0≤1048576) (hl:l.length≤maxLen):
 Calls Try.prog 13 #[.slice a l.length ca,.int .i64 z0] w fun e w'=>e= .returned (.int .i64 (if (l.length:Int)≤z0 then z0 - l.length else -1))∧w=w':=by
 unfold maxLen at hl;by_cases hc:(l.length:Int)≤z0
 ·rw [if_pos hc];have hn:¬(z0 - (l.length:Int) < 0):=by omega
  exact Za48
 ·rw [if_neg hc];have hn:z0 - (l.length:Int) < 0:=by omega
  exact Za48
set_option maxHeartbeats 2000000
abbrev SentAt (w:World) (a:Option Addr) (l:List Snt):Prop:=GR.At encSnt 4 w a l
abbrev SentV (p:Snt):Value:= .agg #[.int .i64 p.i,.int .i64 p.t,.string p.k,.int .i64 p.n]
theorem SentAt.four {w:World} {a:Option Addr} {l:List Snt} (h:SentAt w a l) (i:Nat) (hi:i < l.length):∃g off,a=some ⟨g,off,none⟩∧g < w.heap.size∧w.cell? ⟨g,off+i*4,none⟩=some (.int .i64 l[i].i)∧w.cell? ⟨g,off+i*4+1,none⟩=some (.int .i64 l[i].t)∧w.cell? ⟨g,off+i*4+2,none⟩=some (.string l[i].k)∧w.cell? ⟨g,off+i*4+3,none⟩=some (.int .i64 l[i].n):=by
 exact Za9
abbrev SentBlk (w:World) (g:Nat) (l:List Snt):Prop:=GR.Blk encSnt 69 w g l
theorem SentBlk.four {w:World} {g:Nat} {l:List Snt} (h:SentBlk w g l) (i:Nat) (hi:i < l.length):w.cell? ⟨g,i*4,none⟩=some (.int .i64 l[i].i)∧w.cell? ⟨g,i*4+1,none⟩=some (.int .i64 l[i].t)∧w.cell? ⟨g,i*4+2,none⟩=some (.string l[i].k)∧w.cell? ⟨g,i*4+3,none⟩=some (.int .i64 l[i].n):=
 ⟨by simpa using GR.Blk.cell h encSnt_length i hi 0 (by omega),by simpa using GR.Blk.cell h encSnt_length i hi 1 (by omega),by simpa using GR.Blk.cell h encSnt_length i hi 2 (by omega),by simpa using GR.Blk.cell h encSnt_length i hi 3 (by omega)⟩
theorem SentBlk.step {w w':World} {g:Nat} {l:List Snt} (h:SentBlk w g l) (hb:Below w.heap.size w w'):SentBlk w' g l:=by
 have hl:=GR.Blk.lt h;unfold SentBlk GR.Blk at *;rw [hb.block g hl];exact h
theorem infoSent:(Try.prog.info? 69).map (fun i=>(i.zero,i.size,i.bytes))=some (some (.agg #[.int .i64 0,.int .i64 0,.string ByteArray.empty,.int .i64 0]),4,40):=by kernel_rfl
theorem makeSent (n:Nat) (hn:n≤2000000):∀W:World,(Instr.makeSlice 38 (.int .i64 (n:Int)) (.int .i64 (n:Int))).run Try.prog W= .ok (.slice (some ⟨W.heap.size,0,none⟩) n n) (W.alloc (.cells (GR.flat encSnt (List.replicate n ⟨0,0,ByteArray.empty,0⟩)).toArray 69)):=by
 obtain⟨i0,hi,hz0,hz1,hz2⟩:=info_parts infoSent;intro W;have h:=run_make (P:=Try.prog) W 38 69 i0 (.agg #[.int .i64 0,.int .i64 0,.string ByteArray.empty,.int .i64 0]) Try.underlying38 hi hz0 .i64 .i64 (n:Int) (n:Int) (by omega) (by omega) (by rw [hz2];omega) (by omega);rw [hz1] at h;have e:=GR.made_flat encSnt 4 encSnt_length (by omega) ⟨0,0,ByteArray.empty,0⟩ (Value.cells (.agg #[.int .i64 0,.int .i64 0,.string ByteArray.empty,.int .i64 0])) rfl n;exact Za18
theorem eqSent (p:Snt) (w:World):Calls Try.prog 59 #[SentV p,SentV p] w fun e w'=>e= .returned (.bool true)∧Below w.heap.size w w':=by
 obtain⟨pi,pt,pk,pn⟩:=p;go_enter Try.func59,Try.ntmps59
 exact Za17
theorem take_setSent (l:List Snt) (z:Snt) (k:Nat) (hk:k < l.length):(l.take k++List.replicate (l.length - k) z).set k l[k]=l.take (k+1)++List.replicate (l.length - (k+1)) z:=by
 exact Za4
theorem eqSentS (a b:Option Addr) (ca cb:Nat) (l:List Snt) (w:World) (hl:l.length≤1048600) (ha:SentAt w a l) (hb:SentAt w b l):
 Calls Try.prog 40 #[.slice a l.length ca,.slice b l.length cb] w fun e w'=>e= .returned (.bool true)∧Below w.heap.size w w':=by
 have HA:=hide ha;have HB:=hide hb;clear ha hb;go_enter Try.func40,Try.ntmps40
 go_wp2_with fail;go_loopw [5] (fun i wr=>∃k:Nat,k≤l.length∧i= .int .i64 k∧Below w.heap.size w wr) (fun i _=>l.length - (intOf i).toNat)
 case atStart=>exact Za25
 case round=>
  obtain⟨k,hk,rfl,hbel⟩:=hrel;have HBL:=hide hbel;clear hbel;by_cases hlt:k < l.length
  ·obtain⟨g1,o1,rfl,hg1,s0,s1,s2,s3⟩:=SentAt.four (GR.At.below HA HBL) k hlt;obtain⟨g2,o2,rfl,hg2,t0,t1,t2,t3⟩:=SentAt.four (GR.At.below HB HBL) k hlt;generalize l[k]=pu at *;have HEQ:=hide (fun w1=>eqSent pu w1);obtain⟨pi,pt,pk,pn⟩:=pu;dsimp only at s0 s1 s2 s3 t0 t1 t2 t3;go_wp2_with fail
   go_region_held (fun w'=>(w'.cell? ⟨g1,o1+k*4,none⟩=some (.int .i64 pi)∧w'.cell? ⟨g1,o1+k*4+1,none⟩=some (.int .i64 pt)∧w'.cell? ⟨g1,o1+k*4+2,none⟩=some (.string pk)∧w'.cell? ⟨g1,o1+k*4+3,none⟩=some (.int .i64 pn))∧w'.cell? ⟨g2,o2+k*4,none⟩=some (.int .i64 pi)∧w'.cell? ⟨g2,o2+k*4+1,none⟩=some (.int .i64 pt)∧w'.cell? ⟨g2,o2+k*4+2,none⟩=some (.string pk)∧w'.cell? ⟨g2,o2+k*4+3,none⟩=some (.int .i64 pn)) (go_keep)
    (first
     |(go_at_call 59;refine(HEQ _).mono ?_;rintro e w5 ⟨rfl,hb5⟩;have hb6:Below wr.heap.size wr w5:=⟨hb5.os,hb5.tape,hb5.output,hb5.size,hb5.block⟩;clear hb5;have HBL5:=hide (HBL.trans (hb6.mono HBL.size));have y0:=(hb6.cell (p:=⟨g1,o1+k*4,none⟩) hg1).trans s0;have y1:=(hb6.cell (p:=⟨g1,o1+k*4+1,none⟩) hg1).trans s1;have y2:=(hb6.cell (p:=⟨g1,o1+k*4+2,none⟩) hg1).trans s2;have y3:=(hb6.cell (p:=⟨g1,o1+k*4+3,none⟩) hg1).trans s3;have z0:=(hb6.cell (p:=⟨g2,o2+k*4,none⟩) hg2).trans t0;have z1:=(hb6.cell (p:=⟨g2,o2+k*4+1,none⟩) hg2).trans t1;have z2:=(hb6.cell (p:=⟨g2,o2+k*4+2,none⟩) hg2).trans t2;have z3:=(hb6.cell (p:=⟨g2,o2+k*4+3,none⟩) hg2).trans t3;clear hb6))
   all_goals
    go_wp2_with fail
    go_roundw
    case rel=>exact⟨k+1,by omega,by go_num,HBL5⟩
    case measure=>simp[intOf];omega
  ·exact Za5
set_option maxHeartbeats 2000000
abbrev ReqAt (w:World) (a:Option Addr) (l:List Rq):Prop:=GR.At encRq 4 w a l
abbrev ReqV (p:Rq):Value:= .agg #[.int .i64 p.no,.string p.k,.int .i64 p.n,.int .i64 p.s]
theorem ReqAt.four {w:World} {a:Option Addr} {l:List Rq} (h:ReqAt w a l) (i:Nat) (hi:i < l.length):∃g off,a=some ⟨g,off,none⟩∧g < w.heap.size∧w.cell? ⟨g,off+i*4,none⟩=some (.int .i64 l[i].no)∧w.cell? ⟨g,off+i*4+1,none⟩=some (.string l[i].k)∧w.cell? ⟨g,off+i*4+2,none⟩=some (.int .i64 l[i].n)∧w.cell? ⟨g,off+i*4+3,none⟩=some (.int .i64 l[i].s):=by
 exact Za9
abbrev ReqBlk (w:World) (g:Nat) (l:List Rq):Prop:=GR.Blk encRq 71 w g l
theorem ReqBlk.four {w:World} {g:Nat} {l:List Rq} (h:ReqBlk w g l) (i:Nat) (hi:i < l.length):w.cell? ⟨g,i*4,none⟩=some (.int .i64 l[i].no)∧w.cell? ⟨g,i*4+1,none⟩=some (.string l[i].k)∧w.cell? ⟨g,i*4+2,none⟩=some (.int .i64 l[i].n)∧w.cell? ⟨g,i*4+3,none⟩=some (.int .i64 l[i].s):=
 ⟨by simpa using GR.Blk.cell h encRq_length i hi 0 (by omega),by simpa using GR.Blk.cell h encRq_length i hi 1 (by omega),by simpa using GR.Blk.cell h encRq_length i hi 2 (by omega),by simpa using GR.Blk.cell h encRq_length i hi 3 (by omega)⟩
theorem ReqBlk.step {w w':World} {g:Nat} {l:List Rq} (h:ReqBlk w g l) (hb:Below w.heap.size w w'):ReqBlk w' g l:=by
 have hl:=GR.Blk.lt h;unfold ReqBlk GR.Blk at *;rw [hb.block g hl];exact h
theorem infoReq:(Try.prog.info? 71).map (fun i=>(i.zero,i.size,i.bytes))=some (some (.agg #[.int .i64 0,.string ByteArray.empty,.int .i64 0,.int .i64 0]),4,40):=by kernel_rfl
theorem makeReq (n:Nat) (hn:n≤2000000):∀W:World,(Instr.makeSlice 40 (.int .i64 (n:Int)) (.int .i64 (n:Int))).run Try.prog W= .ok (.slice (some ⟨W.heap.size,0,none⟩) n n) (W.alloc (.cells (GR.flat encRq (List.replicate n ⟨0,ByteArray.empty,0,0⟩)).toArray 71)):=by
 obtain⟨i0,hi,hz0,hz1,hz2⟩:=info_parts infoReq;intro W;have h:=run_make (P:=Try.prog) W 40 71 i0 (.agg #[.int .i64 0,.string ByteArray.empty,.int .i64 0,.int .i64 0]) Try.underlying40 hi hz0 .i64 .i64 (n:Int) (n:Int) (by omega) (by omega) (by rw [hz2];omega) (by omega);rw [hz1] at h;have e:=GR.made_flat encRq 4 encRq_length (by omega) ⟨0,ByteArray.empty,0,0⟩ (Value.cells (.agg #[.int .i64 0,.string ByteArray.empty,.int .i64 0,.int .i64 0])) rfl n;exact Za18
theorem eqReq (p:Rq) (w:World):Calls Try.prog 61 #[ReqV p,ReqV p] w fun e w'=>e= .returned (.bool true)∧Below w.heap.size w w':=by
 obtain⟨pno,pk,pn,ps⟩:=p;go_enter Try.func61,Try.ntmps61
 exact Za17
theorem take_setReq (l:List Rq) (z:Rq) (k:Nat) (hk:k < l.length):(l.take k++List.replicate (l.length - k) z).set k l[k]=l.take (k+1)++List.replicate (l.length - (k+1)) z:=by
 exact Za4
theorem eqReqS (a b:Option Addr) (ca cb:Nat) (l:List Rq) (w:World) (hl:l.length≤1048600) (ha:ReqAt w a l) (hb:ReqAt w b l):
 Calls Try.prog 42 #[.slice a l.length ca,.slice b l.length cb] w fun e w'=>e= .returned (.bool true)∧Below w.heap.size w w':=by
 have HA:=hide ha;have HB:=hide hb;clear ha hb;go_enter Try.func42,Try.ntmps42
 go_wp2_with fail;go_loopw [5] (fun i wr=>∃k:Nat,k≤l.length∧i= .int .i64 k∧Below w.heap.size w wr) (fun i _=>l.length - (intOf i).toNat)
 case atStart=>exact Za25
 case round=>
  obtain⟨k,hk,rfl,hbel⟩:=hrel;have HBL:=hide hbel;clear hbel;by_cases hlt:k < l.length
  ·obtain⟨g1,o1,rfl,hg1,s0,s1,s2,s3⟩:=ReqAt.four (GR.At.below HA HBL) k hlt;obtain⟨g2,o2,rfl,hg2,t0,t1,t2,t3⟩:=ReqAt.four (GR.At.below HB HBL) k hlt;generalize l[k]=pu at *;have HEQ:=hide (fun w1=>eqReq pu w1);obtain⟨pno,pk,pn,ps⟩:=pu;dsimp only at s0 s1 s2 s3 t0 t1 t2 t3;go_wp2_with fail
   go_region_held (fun w'=>(w'.cell? ⟨g1,o1+k*4,none⟩=some (.int .i64 pno)∧w'.cell? ⟨g1,o1+k*4+1,none⟩=some (.string pk)∧w'.cell? ⟨g1,o1+k*4+2,none⟩=some (.int .i64 pn)∧w'.cell? ⟨g1,o1+k*4+3,none⟩=some (.int .i64 ps))∧w'.cell? ⟨g2,o2+k*4,none⟩=some (.int .i64 pno)∧w'.cell? ⟨g2,o2+k*4+1,none⟩=some (.string pk)∧w'.cell? ⟨g2,o2+k*4+2,none⟩=some (.int .i64 pn)∧w'.cell? ⟨g2,o2+k*4+3,none⟩=some (.int .i64 ps)) (go_keep)
    (first
     |(go_at_call 61;refine(HEQ _).mono ?_;rintro e w5 ⟨rfl,hb5⟩;have hb6:Below wr.heap.size wr w5:=⟨hb5.os,hb5.tape,hb5.output,hb5.size,hb5.block⟩;clear hb5;have HBL5:=hide (HBL.trans (hb6.mono HBL.size));have y0:=(hb6.cell (p:=⟨g1,o1+k*4,none⟩) hg1).trans s0;have y1:=(hb6.cell (p:=⟨g1,o1+k*4+1,none⟩) hg1).trans s1;have y2:=(hb6.cell (p:=⟨g1,o1+k*4+2,none⟩) hg1).trans s2;have y3:=(hb6.cell (p:=⟨g1,o1+k*4+3,none⟩) hg1).trans s3;have z0:=(hb6.cell (p:=⟨g2,o2+k*4,none⟩) hg2).trans t0;have z1:=(hb6.cell (p:=⟨g2,o2+k*4+1,none⟩) hg2).trans t1;have z2:=(hb6.cell (p:=⟨g2,o2+k*4+2,none⟩) hg2).trans t2;have z3:=(hb6.cell (p:=⟨g2,o2+k*4+3,none⟩) hg2).trans t3;clear hb6))
   all_goals
    go_wp2_with fail
    go_roundw
    case rel=>exact⟨k+1,by omega,by go_num,HBL5⟩
    case measure=>simp[intOf];omega
  ·exact Za5
def bv (c:UInt8):Value:= .int .u8 (c.toNat:Int)
theorem bv_of (n:Nat) (h:n < 256):Value.int .u8 (n:Int)=bv (UInt8.ofNat n):=by
 unfold bv;rw [Mth.toNat_byte n h]
theorem bv_one (l:List UInt8):∀u∈l.map bv,u.oneCell'=true:=by
 intro u hu;simp only[List.mem_map] at hu;obtain⟨c,_,rfl⟩:=hu;rfl
theorem conv_owned {P:Program} {w:World} {base:Nat} {e:TypeId} {v:Value} {l:List UInt8} (src dst:TypeId) (hs:P.underlying src=some (.slice e)) (he:P.underlying e=some (.int .u8)) (hd:P.underlying dst=some .string)
 (h:w.ownsRow base e 1 v l.length (l.map bv)):(convert src dst v).run P w= .ok (.string ⟨l.toArray⟩) w:=by
 rcases h.2 with⟨rfl,hn⟩|⟨g,cap,cur,rfl,_⟩
 ·rw [run_convert_bytes_string w src dst e none 0 0 hs he hd];have:l=[]:=List.length_eq_zero_iff.1 hn;subst this;rfl
 ·apply run_convert_bytes_back w src dst e _ cap l hs he hd
  intro j hj;exact h.cells rfl j (bv l[j]) (by simp[hj])
theorem own_snoc {w:World} {base:Nat} {e:TypeId} {v:Value} {l:List UInt8} {z:Int} (b:UInt8) (hz:z=b.toNat) (h:w.ownsRow base e 1 v (l.length+1) (l.map bv++[.int .u8 z])):
 w.ownsRow base e 1 v (l++[b]).length ((l++[b]).map bv):=by
 subst hz;have e1:(l++[b]).map bv=l.map bv++[.int .u8 (b.toNat:Int)]:=by simp[bv]
 rw [e1];simpa using h
theorem below_append {w wr w1:World} {e:TypeId} {v:Value} {n:Nat} {xs:List Value} {o:Obj} (hb:Below w.heap.size w wr) (hown:wr.ownsRow w.heap.size e 1 v n xs) (hg:(wr.alloc o).grownBy w1 v.ownBlock):Below w.heap.size w w1:=
 (hb.alloc (by have:=hb.size;omega) o).grown hg (by have:=hb.size;simp;omega) (fun k hk=>(hown.lt k hk).1)
namespace GR
open Go.RowKit
variable {α:Type} {enc:α→List Value} {sz:Nat}
theorem At.news {w:World} {x:Addr} {l:List α} (hs:∀y,(enc y).length=sz) (hz:0 < sz) (h:At enc sz w (some x) l):∀j u,(flat enc l)[j]?=some u→w.cell? (x.add j)=some u:=by
 intro j u hu
 have hj:j < l.length*sz:=by
  have:=(List.getElem?_eq_some_iff.1 hu).1;rwa [flat_length enc sz hs] at this
 have hq:j / sz < l.length:=Nat.div_lt_of_lt_mul (by rw [Nat.mul_comm];exact hj);have hr:j % sz < sz:=Nat.mod_lt _ hz;obtain⟨g,off,e,hg,hc⟩:=h (j / sz) hq;have hf:=flat_at enc sz hs l (j / sz) hq (j % sz) hr;have ej:j / sz*sz+j % sz=j:=Nat.div_add_mod' j sz;rw [ej] at hf;have h2:=hc (j % sz) hr;exact Za22
theorem flat_oneCell (h1:∀y,∀u∈enc y,u.oneCell'=true) (l:List α):∀u∈flat enc l,u.oneCell'=true:=by
 intro u hu;unfold flat at hu;rw [List.mem_flatMap] at hu;obtain⟨p,_,hp⟩:=hu;exact h1 p u hp
theorem own_below {w w':World} {B:Nat} {e:TypeId} {sz:Nat} {v:Value} {n:Nat} {xs:List Value} (h:w.ownsRow B e sz v n xs) (hb:Below w.heap.size w w'):w'.ownsRow B e sz v n xs:=
 h.kept (row:=none) ⟨hb.os,hb.tape,hb.output,hb.size,fun k hk _=>hb.block k hk⟩ (by cases v.ownBlock with|none=>exact .inl rfl|some k=>exact .inr (by simp))
theorem own_lower {w:World} {b b':Nat} {e:TypeId} {sz:Nat} {v:Value} {n:Nat} {xs:List Value} (h:w.ownsRow b e sz v n xs) (hb:b'≤b):w.ownsRow b' e sz v n xs:=by
 refine⟨h.1,?_⟩;rcases h.2 with h2|⟨g,cap,cur,hv,hg,hr⟩
 ·exact .inl h2
 ·exact .inr ⟨g,cap,cur,hv,Nat.le_trans hb hg,hr⟩
theorem below_append {w wr w1:World} {B:Nat} {e:TypeId} {sz:Nat} {v:Value} {n:Nat} {xs:List Value} {o:Obj} (hb:Below B w wr) (hB:B≤wr.heap.size) (hown:wr.ownsRow B e sz v n xs) (hg:(wr.alloc o).grownBy w1 v.ownBlock):Below B w w1:=
 (hb.alloc hB o).grown hg (by simp;omega) (fun k hk=>(hown.lt k hk).1)
theorem none_nil {w:World} {l:List α} (h:At enc sz w none l):l=[]:=by
 cases l with
 |nil=>rfl
 |cons y l=>
  obtain⟨g,off,e,_⟩:=h 0 (by simp)
  cases e
end GR
theorem obj_lt {w:World} {g:Nat} {o:Obj} (h:w.heap[g]?=some o):g < w.heap.size:=by
 exact Za16
structure KeepsL (F:List Nat) (w w':World):Prop where
 os:w'.os=w.os
 tape:w'.tape=w.tape
 output:w'.output=w.output
 size:w.heap.size≤w'.heap.size
 block:∀k,k < w.heap.size→k∉F→w'.heap[k]?=w.heap[k]?
theorem KeepsL.refl (F:List Nat) (w:World):KeepsL F w w:=⟨rfl,rfl,rfl,Nat.le_refl _,fun _ _ _=>rfl⟩
theorem KeepsL.trans {F:List Nat} {a b c:World} (h:KeepsL F a b) (k:KeepsL F b c):KeepsL F a c:=
 ⟨k.os.trans h.os,k.tape.trans h.tape,k.output.trans h.output,Nat.le_trans h.size k.size,fun i hi hg=>(k.block i (Nat.lt_of_lt_of_le hi h.size) hg).trans (h.block i hi hg)⟩
theorem KeepsL.mono {F F':List Nat} {a b:World} (h:KeepsL F a b) (hs:∀x∈F,x∈F'):KeepsL F' a b:=
 ⟨h.os,h.tape,h.output,h.size,fun i hi hg=>h.block i hi (fun hx=>hg (hs i hx))⟩
theorem KeepsL.of_below {F:List Nat} {w w':World} (h:Below w.heap.size w w'):KeepsL F w w':=⟨h.os,h.tape,h.output,h.size,fun k hk _=>h.block k hk⟩
theorem KeepsL.set {g i:Nat} {w:World} (v:Value):KeepsL [g] w (w.setCell ⟨g,i,none⟩ v):=
 ⟨rfl,rfl,rfl,by simp[World.setCell],fun k _ hg=>Below.heap_setCell _ _ _ _ (by simpa using hg)⟩
theorem KeepsL.below {F:List Nat} {B:Nat} {w w':World} (h:KeepsL F w w') (hB:∀x∈F,B≤x) (hs:B≤w.heap.size):Below B w w':=
 ⟨h.os,h.tape,h.output,h.size,fun k hk=>h.block k (by omega) (fun hx=>by have:=hB k hx;omega)⟩
theorem KeepsL.obj {F:List Nat} {w w':World} {g:Nat} {o:Obj} (hk:KeepsL F w w') (h:w.heap[g]?=some o) (hg:g∉F):w'.heap[g]?=some o:=by
 rw [hk.block g (obj_lt h) hg];exact h
def fp {α:Type} (g:Nat) (l:List α):List Nat:=if l.isEmpty then[] else[g]
theorem fp_mem {α:Type} {g:Nat} {l:List α} (h:0 < l.length):g∈fp g l:=by
 unfold fp;cases l with
 |nil=>simp at h
 |cons x l=>simp
theorem of_fp {α:Type} {g x:Nat} {l:List α} (h:x∈fp g l):x=g∧0 < l.length:=by
 unfold fp at h;cases l with
 |nil=>simp at h
 |cons y l=>simpa using h
theorem fp_sub {α:Type} {g:Nat} {l:List α}:∀x∈fp g l,x∈[g]:=fun x hx=>by simp[(of_fp hx).1]
theorem fp_nodup {α:Type} (g:Nat) (l:List α):(fp g l).Nodup:=by unfold fp;split<;>simp
namespace GR
variable {α:Type}
def W (enc:α→List Value) (sz:Nat) (w:World) (a:Option Addr) (g:Nat) (l:List α):Prop:=∀i (hi:i < l.length),a=some ⟨g,0,none⟩∧g < w.heap.size∧∀j,j < sz→w.cell? ⟨g,i*sz+j,none⟩=(enc l[i])[j]?∧w.frozen? ⟨g,i*sz+j,none⟩=false
variable {enc:α→List Value} {sz:Nat}
theorem W.at {w:World} {a:Option Addr} {g:Nat} {l:List α} (h:W enc sz w a g l):At enc sz w a l:=fun i hi=>
 ⟨g,0,(h i hi).1,(h i hi).2.1,fun j hj=>by rw [Nat.zero_add];exact((h i hi).2.2 j hj).1⟩
theorem W.of_blk {w:World} {t:TypeId} {g:Nat} {l:List α} (hs:∀x,(enc x).length=sz) (h:Blk enc t w g l):W enc sz w (some ⟨g,0,none⟩) g l:=fun i hi=>
 ⟨rfl,Blk.lt h,fun j hj=>⟨Blk.cell h hs i hi j hj,Blk.free h _⟩⟩
theorem W.nil {w:World} {a:Option Addr} {g:Nat}:W enc sz w a g []:=fun i hi=>by simp at hi
theorem W.keeps {F:List Nat} {w w':World} {a:Option Addr} {g:Nat} {l:List α} (h:W enc sz w a g l) (hk:KeepsL F w w') (hd:∀x∈fp g l,x∉F):W enc sz w' a g l:=fun i hi=>by
 obtain⟨e,hg,hc⟩:=h i hi;have hne:g∉F:=hd g (fp_mem (by omega));exact⟨e,Nat.lt_of_lt_of_le hg hk.size,fun j hj=>⟨(World.cell?_of_block (w:=w) (hk.block g hg hne)).trans (hc j hj).1,(World.frozen?_of_block (w:=w) (hk.block g hg hne)).trans (hc j hj).2⟩⟩
theorem W.below {w w':World} {a:Option Addr} {g:Nat} {l:List α} (h:W enc sz w a g l) (hb:Below w.heap.size w w'):W enc sz w' a g l:=h.keeps (F:=[]) (KeepsL.of_below hb) (fun _ _=>by simp)
theorem W.of_own {w:World} {B:Nat} {t:TypeId} {v:Value} {l:List α} (hs:∀x,(enc x).length=sz) (h:w.ownsRow B t sz v l.length (flat enc l)):∃a c g,v= .slice a l.length c∧W enc sz w a g l∧(∀x∈fp g l,B≤x∧x < w.heap.size)∧(∀x∈fp g l,v.ownBlock=some x):=by
 obtain⟨a,c,rfl,hat⟩:=own_at hs h;rcases h.2 with⟨hv,hn⟩|⟨g,cap,cur,hv,hg,hblk,_⟩
 ·have hl:l=[]:=List.eq_nil_of_length_eq_zero hn;subst hl;exact⟨_,_,0,rfl,W.nil,fun x hx=>by simp[fp] at hx,fun x hx=>by simp[fp] at hx⟩
 ·cases hv
  refine⟨_,_,g,rfl,fun i hi=>?_,fun x hx=>?_,fun x hx=>?_⟩
  ·obtain⟨g',off',e,hg',hc⟩:=hat i hi;cases e
   refine⟨rfl,hg',fun j hj=>⟨?_,?_⟩⟩
   ·have:=hc j hj;rwa [Nat.zero_add] at this
   ·unfold World.frozen?;rw [hblk];simp
  ·rw [(of_fp hx).1];exact⟨hg,obj_lt hblk⟩
  ·rw [(of_fp hx).1];rfl
end GR
end Go.Proofs.Ytheiblbhlmaphaa
