/- Parts. -/
import Derived.Test.YtacgbldlonoaaaaGreatDoorRa3
import Derived.Test.YtacgbldlonoaaaaGreatDoorRtZ1
namespace Go.Proofs.YtacgbldlonoaaaaGreatDoor
set_option maxHeartbeats 8000000
set_option maxRecDepth 100000
open Go.RowKit
open Mth
theorem asw (w:World) (q:Nat):Below w.heap.size w (w.drewN q):=⟨rfl,rfl,rfl,Nat.le_refl _,fun _ _=>rfl⟩
theorem atT (a b:Option Addr) (ca cb:Nat) (l:List Int) (w:World) (hl:l.length≤1048600) (ha:dK w a l) (hb:dK w b l):
 Calls Tryz.prog 48 #[.slice a l.length ca,.slice b l.length cb] w fun e w'=>e= .returned (.bool true)∧Below w.heap.size w w':=by
 have HA:=hide ha;have HB:=hide hb;clear ha hb;go_enter Tryz.func48,Tryz.ntmps48
 go_wp2_with fail;go_loopw [5] (fun i wr=>∃k q:Nat,k≤l.length∧i= .int .i64 k∧wr=w.drewN q) (fun i _=>l.length - (intOf i).toNat)
 case atStart=>exact⟨0,0,Nat.zero_le _,rfl,rfl⟩
 case round=>
  obtain⟨k,q,hk,rfl,rfl⟩:=hrel;by_cases hlt:k < l.length
  ·obtain⟨g1,o1,rfl,hg1,s0⟩:=dK.one HA k hlt;obtain⟨g2,o2,rfl,hg2,t0⟩:=dK.one HB k hlt;generalize l[k]=pu at *;exact Zb1
  ·exact Zb5
theorem atm (a b:Option Addr) (ca cb:Nat) (l:List Pu) (w:World) (hl:l.length≤1048600) (ha:aH w a l) (hb:aH w b l):
 Calls Tryz.prog 49 #[.slice a l.length ca,.slice b l.length cb] w fun e w'=>e= .returned (.bool true)∧Below w.heap.size w w':=by
 have HA:=hide ha;have HB:=hide hb;clear ha hb;go_enter Tryz.func49,Tryz.ntmps49
 go_wp2_with fail;go_loopw [5] (fun i wr=>∃k q:Nat,k≤l.length∧i= .int .i64 k∧wr=w.drewN q) (fun i _=>l.length - (intOf i).toNat)
 case atStart=>exact⟨0,0,Nat.zero_le _,rfl,rfl⟩
 case round=>
  obtain⟨k,q,hk,rfl,rfl⟩:=hrel;by_cases hlt:k < l.length
  ·obtain⟨g1,o1,rfl,hg1,s0,s1,s2,s3⟩:=aH.four HA k hlt;obtain⟨g2,o2,rfl,hg2,t0,t1,t2,t3⟩:=aH.four HB k hlt;generalize l[k]=pu at *;obtain⟨pk,pm,pf,ps⟩:=pu;exact ava
  ·exact Zb5
theorem at6 (w:World) (a b:Obj):((w.alloc a).alloc b).heap[w.heap.size]?=some a∧((w.alloc a).alloc b).heap[w.heap.size+1]?=some b∧Below w.heap.size w ((w.alloc a).alloc b):=by
 have e1:(w.alloc a).heap.size=w.heap.size+1:=by simp
 have h1:=heap_alloc_new w a;have h2:=heap_alloc_new (w.alloc a) b;rw [e1] at h2;refine⟨?_,h2,(au w _).alloc (by simp) _⟩;rw [Below.heap_alloc _ _ _ (by rw [e1];omega)];exact h1
theorem au1 (n:Nd) (A B:bE) (w:World) (hz:eH n 1048576) (ha:dQ w A n) (hb:dQ w B n):
 Calls Tryz.prog 14 #[gu n A,gu n B] w fun e w'=>e= .returned (.bool true)∧Below w.heap.size w w':=by
 obtain⟨hA,hB,hbw⟩:=at6 w (.cells (fZ n A) 30) (.cells (fZ n B) 30);generalize hW:(w.alloc (.cells (fZ n A) 30)).alloc (.cells (fZ n B) 30)=W at *;have HA:=hide hA;have HB:=hide hB;have iD:=hide hbw;have O7:=hide (ha.below hbw);have MR:=hide (hb.below hbw);have HSI:=hide (fun a b ca cb (l:List Int) (w:World) (hl:l.length≤1048576) ha hb=>atT a b ca cb l w (by omega) ha hb);have M8:=hide (fun a b ca cb (l:List Pu) (w:World) (hl:l.length≤1048576) ha hb=>atm a b ca cb l w (by omega) ha hb);have HZ:=hide hz;have hzo:=hz.o;have hzs:=hz.s;have hzr:=hz.r;clear hA hB hbw ha hb hz;obtain⟨id,par,kids,next,pu,out,seen,old,reqs⟩:=n;obtain⟨ak,ap,ao,as',ar,ck,cp,co,cs,cr⟩:=A;obtain⟨bk,bp,bo,bs,br,dk,dp,do',ds,dr⟩:=B;dsimp only at hzo hzs hzr;have HA:Hid (W.heap[w.heap.size]?=some (.cells #[.int .i64 id,.int .i64 par,.slice ak kids.length ck,.int .i64 next,.slice ap pu.length cp,.slice ao out.length co,.slice as' seen.length cs,.int .i64 old,.slice ar reqs.length cr] 30 (0,0))):=HA;have HB:Hid (W.heap[w.heap.size+1]?=some (.cells #[.int .i64 id,.int .i64 par,.slice bk kids.length dk,.int .i64 next,.slice bp pu.length dp,.slice bo out.length do',.slice bs seen.length ds,.int .i64 old,.slice br reqs.length dr] 30 (0,0))):=HB;obtain⟨c0,c1,c2,c3,c4,c5,c6,c7,c8⟩:=nine HA;obtain⟨e0,e1,e2,e3,e4,e5,e6,e7,e8⟩:=nine HB;go_enter Tryz.func14,Tryz.ntmps14
 go_upto_region 1 with fail;clear hW;go_wp2_with fail;refine(HSI ak bk ck dk kids W HZ.k O7.k MR.k).mono ?_;rintro e w1 ⟨rfl,hb1⟩;have uL:=hide (M8 ap bp cp dp pu w1 HZ.p (GR.At.below O7.p hb1) (GR.At.below MR.p hb1));have HB1:=hide hb1;have HA1:=hide (aj HA hb1);have Wt:=hide (aj HB hb1);clear hb1 c0 c1 c2 c3 c4 c5 c6 c7 c8 e0 e1 e2 e3 e4 e5 e6 e7 e8;obtain⟨c0,c1,c2,c3,c4,c5,c6,c7,c8⟩:=nine HA1;obtain⟨e0,e1,e2,e3,e4,e5,e6,e7,e8⟩:=nine Wt;go_wp2_with fail;refine uL.mono ?_;rintro e w2 ⟨rfl,hb2⟩;have HB2:=hide (HB1.trans (hb2.mono HB1.size));have HA2:=hide (aj HA1 hb2);have uF:=hide (aj Wt hb2);clear hb2 uL HB1 HA1 Wt c0 c1 c2 c3 c4 c5 c6 c7 c8 e0 e1 e2 e3 e4 e5 e6 e7 e8;have UH:=hide (GR.At.below O7.o HB2);have au7:=hide (GR.At.below MR.o HB2);obtain⟨c0,c1,c2,c3,c4,c5,c6,c7,c8⟩:=nine HA2;obtain⟨e0,e1,e2,e3,e4,e5,e6,e7,e8⟩:=nine uF;go_wp2_with fail;go_loopw [5] (fun i wr=>∃k q:Nat,k≤out.length∧i= .int .i64 k∧wr=w2.drewN q) (fun i _=>out.length - (intOf i).toNat)
 case atStart=>exact⟨0,0,Nat.zero_le _,rfl,rfl⟩
 case round=>
  obtain⟨k,q,hk,rfl,rfl⟩:=hrel;by_cases hlt:k < out.length
  ·obtain⟨g1,o1,rfl,hg1,s0,s1,s2,s3⟩:=SentAt.four UH k hlt;obtain⟨g2,o2,rfl,hg2,t0,t1,t2,t3⟩:=SentAt.four au7 k hlt;generalize out[k]=x at *;obtain⟨xi,xt,xk,xn⟩:=x;exact ava
  ·open avw in exact Yb4
end Go.Proofs.YtacgbldlonoaaaaGreatDoor
