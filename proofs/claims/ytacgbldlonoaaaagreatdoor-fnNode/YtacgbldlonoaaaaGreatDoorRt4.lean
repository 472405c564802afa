/- Parts. -/
import Derived.Test.YtacgbldlonoaaaaGreatDoorRt3
namespace Go.Proofs.YtacgbldlonoaaaaGreatDoor
set_option maxHeartbeats 8000000
set_option maxRecDepth 100000
open Go.RowKit
open Mth
abbrev opA (o:jE):Array Value:=#[.int .i64 o.K,.int .i64 o.no,.string o.k,.int .i64 o.n,.int .i64 o.m.K,.int .i64 o.m.F,.int .i64 o.m.T,.int .i64 o.m.I,.int .i64 o.m.L,.string o.m.k,.int .i64 o.m.N]
structure OSt (w:World) (c g:Nat) (o:jE) (W:World):Prop where
 cur:Cur W c
 keep:Keeps c w W
 clt:c < w.heap.size
 glt:w.heap.size < g
 res:W.heap[w.heap.size]?=some (.cells #[.int .i64 0,.int .i64 0,.string ⟨#[]⟩,.int .i64 0,.int .i64 0,.int .i64 0,.int .i64 0,.int .i64 0,.int .i64 0,.string ⟨#[]⟩,.int .i64 0] 34 (0,0))
 own:W.heap[g]?=some (.cells (opA o) 34 (0,0))
theorem OSt.draw {w W W':World} {c g:Nat} {o:jE} (h:OSt w c g o W) (hc:Cur W' c) (hk:Keeps c W W'):OSt w c g o W':=by
 have h1:=jh h.res;have h2:=jh h.own;have h3:=h.clt;have h4:=h.glt;exact⟨hc,h.keep.trans hk,h.clt,h.glt,by rw [hk.block _ h1 (by omega)];exact h.res,by rw [hk.block _ h2 (by omega)];exact h.own⟩
theorem OSt.new {w W:World} {c g:Nat} {o:jE} (h:OSt w c g o W) (x:Obj):OSt w c g o (W.alloc x):=h.draw (asl h.cur x) (asv x)
theorem OSt.far {w W W':World} {c g:Nat} {o o':jE} (h:OSt w c g o W) (hb:Below g W W') (e:W'.heap[g]?=some (.cells (opA o') 34 (0,0))):OSt w c g o' W':=by
 have h3:=h.clt;have h4:=h.glt;have hk:=h.keep;exact⟨h.cur.below hb (by omega),⟨hb.os.trans hk.os,hb.tape.trans hk.tape,hb.output.trans hk.output,Nat.le_trans hk.size hb.size,fun k k1 k2=>(hb.block k (by omega)).trans (hk.block k k1 k2)⟩,h.clt,h.glt,(hb.block _ h4).trans h.res,e⟩
theorem auU {w:World} {c:Nat} {cs:Array Value} {t:TypeId} (h:w.heap[c]?=some (.cells cs t (0,0))) (i:Nat) (v:Value):(w.setCell ⟨c,i,none⟩ v).heap[c]?=some (.cells (cs.setIfInBounds i v) t (0,0)):=by
 exact Zb9
theorem OSt.put {w W:World} {c g:Nat} {o o':jE} (h:OSt w c g o W) (i:Nat) (v:Value) (e:(opA o).setIfInBounds i v=opA o'):OSt w c g o' (W.setCell ⟨g,i,none⟩ v):=
 h.far ((Below.refl g W).setCell (p:=⟨g,i,none⟩) (Nat.le_refl g) v) (by rw [←e];exact auU h.own i v)
theorem OSt.at {w W V:World} {c g:Nat} {o:jE} (h:OSt w c g o W) (e:V=W):OSt w c g o V:=by rw [e];exact h
def as7:List ByteArray:=[⟨#[97]⟩,⟨#[98]⟩]
theorem atg:∀x∈as7,x.size≤20:=by decide
theorem aui (c:Nat) (w:World) (hc:Cur w c):Calls Tryz.prog 33 #[.pointer (some ⟨c,0,none⟩)] w fun e w'=>∃o:jE,e= .returned (jH o)∧o.k.size≤20∧o.m.k.size≤20∧Cur w' c∧Keeps c w w':=by
 have hcl:=hc.lt;have HC:=hide hc;clear hc;go_enter Tryz.func33,Tryz.ntmps33
 go_wp2_with fail;generalize hwa:w.alloc (.cells #[.int .i64 0,.int .i64 0,.string ⟨#[]⟩,.int .i64 0,.int .i64 0,.int .i64 0,.int .i64 0,.int .i64 0,.int .i64 0,.string ⟨#[]⟩,.int .i64 0] 34)=wa at *;have aud:wa.heap.size=w.heap.size+1:=by rw [←hwa];simp
 have HCA:=hide (show Cur wa c by rw [←hwa];exact asl HC _);have HKA:=hide (show Keeps c w wa by rw [←hwa];exact asv _);have qB:=hide (show wa.heap[w.heap.size]?=some (.cells #[.int .i64 0,.int .i64 0,.string ⟨#[]⟩,.int .i64 0,.int .i64 0,.int .i64 0,.int .i64 0,.int .i64 0,.int .i64 0,.string ⟨#[]⟩,.int .i64 0] 34 (0,0)) by rw [←hwa];exact heap_alloc_new w _);clear hwa HC;have FW:=hide (auB c (w.heap.size+1) 2 as7 _ (asl HCA (.cells (as7.map Value.string).toArray 9)) (by omega) (by decide) (by decide) (fun i hi=>by rw [←aud];exact auj wa as7 _ i hi) (by simp;omega));refine FW.mono ?_;clear FW;rintro e w1 ⟨key,rfl,hkey,hc1,hk1⟩;have hks:=atg key hkey;have Wt:=hide hc1;have HK1:=hide ((HKA.trans (asv _)).trans hk1);have HR1:=hide (show w1.heap[w.heap.size]?=some (.cells #[.int .i64 0,.int .i64 0,.string ⟨#[]⟩,.int .i64 0,.int .i64 0,.int .i64 0,.int .i64 0,.int .i64 0,.int .i64 0,.string ⟨#[]⟩,.int .i64 0] 34 (0,0)) by rw [hk1.block _ (by simp;omega) (by omega),Below.heap_alloc _ _ _ (by omega)];exact qB);clear hc1 hk1 HCA HKA qB hkey;go_wp2_with fail;refine(asj c 9 _ Wt (by omega) (by omega)).mono ?_;rintro e w2 ⟨y,rfl,hy0,hy1,hc2,hk2⟩;have uF:=hide hc2;have MK:=hide (HK1.trans hk2);have HR2:=hide (show w2.heap[w.heap.size]?=some (.cells #[.int .i64 0,.int .i64 0,.string ⟨#[]⟩,.int .i64 0,.int .i64 0,.int .i64 0,.int .i64 0,.int .i64 0,.int .i64 0,.string ⟨#[]⟩,.int .i64 0] 34 (0,0)) by rw [hk2.block _ (jh (ah HR1)) (by omega)];exact HR1);have hr2:=jh HR2;clear hc2 hk2 Wt HK1 HR1;go_upto_region 4 with fail;refine wp_at (fun V0 hV=>?_)
 have HS:=hide (show OSt w c w2.heap.size ⟨0,0,⟨#[]⟩,0,⟨0,0,0,0,0,⟨#[]⟩,0⟩⟩ V0 by
  rw [hV]
  refine⟨asl uF _,MK.trans (asv _),hcl,hr2,?_,heap_alloc_new w2 _⟩
  rw [Below.heap_alloc _ _ _ hr2]
  exact HR2)
 clear hV uF MK HR2 hr2 aud;have hn0:0≤1+y:=by omega
 have hn1:1+y≤9:=by omega
 generalize w2.heap.size=g at *;go_wp2_with fail;refine(asj c 10 _ HS.cur (by omega) (by omega)).mono ?_;rintro e wz ⟨z,rfl,hz0,hz1,hcx,hkx⟩;have TW:=hide (HS.draw hcx hkx);clear hcx hkx HS;go_upto_block 0 with fail;go_cut [5] (fun p wx=>p= .pointer (some ⟨g,0,none⟩)∧∃o:jE,OSt w c g o wx∧o.k.size≤20∧o.m.k.size≤20)
 case first=>
  have hzc:z=0∨z=1∨z=2∨z=3∨z=4∨z=5∨z=6∨z=7∨z=8∨z=9:=by omega
  rcases hzc with rfl|rfl|rfl|rfl|rfl|rfl|rfl|rfl|rfl|rfl
  ·clear hz0 hz1;open Sb8 in exact Yb1
  ·exact Zb0
  ·exact Zb0
  ·open avu in exact Yb3
  ·clear hz0 hz1;open Sb7 in exact Yb1
  ·clear hz0 hz1;open Sb6 in exact Yb1
  ·clear hz0 hz1;open Sb5 in exact Yb1
  ·clear hz0 hz1;go_wp2_with fail;refine(asj c 9 _ TW.cur (by omega) (by omega)).mono ?_;rintro e wp ⟨p,rfl,hp0,hp1,hcx,hkx⟩;have HS2:=hide (TW.draw hcx hkx);clear hcx hkx TW;go_wp2_with fail;refine(asn c wp.heap.size 3 [0,0,2] _ (asl HS2.cur _) (by have:=HS2.cur.lt;omega) (by simp) (by simp) (fun i hi=>asq wp [0,0,2] _ i hi) (by simp)).mono ?_;rintro e wf ⟨f,rfl,hin,hcx,hkx⟩;have Xa:=hide ((HS2.new _).draw hcx hkx);clear hcx hkx hin HS2;go_wp2_with fail;refine(asj c (1+p) _ Xa.cur (by omega) (by omega)).mono ?_;rintro e wl ⟨l,rfl,hl0,hl1,hcx,hkx⟩;have HS4:=hide (Xa.draw hcx hkx);clear hcx hkx Xa;obtain⟨⟨c0,c1,c2,c3,c4,c5,c6,c7,c8,c9,c10⟩,f0,f1,f2,f3,f4,f5,f6,f7,f8,f9,f10⟩:=dP HS4.own;have hzg:=jh HS4.own;go_wp2_with fail;go_meet
   case rel=>exact⟨rfl,⟨6,0,⟨#[]⟩,0,⟨1,f,1,(1+p),(1+l),key,(5+(1+y))⟩⟩,HS4.far (o':=⟨6,0,⟨#[]⟩,0,⟨1,f,1,(1+p),(1+l),key,(5+(1+y))⟩⟩) (Nr (Below.refl _ _) (Nat.le_refl _)) (abh HS4.own),by dsimp only;first|exact hks|decide,by dsimp only;first|exact hks|decide⟩
  ·clear hz0 hz1;go_wp2_with fail;refine(asn c wz.heap.size 4 [2,3,2,0] _ (asl TW.cur _) (by have:=TW.cur.lt;omega) (by simp) (by simp) (fun i hi=>asq wz [2,3,2,0] _ i hi) (by simp)).mono ?_;open Sb3 in exact Yb0
  ·clear hz0 hz1;go_wp2_with fail;refine(asn c wz.heap.size 3 [2,3,0] _ (asl TW.cur _) (by have:=TW.cur.lt;omega) (by simp) (by simp) (fun i hi=>asq wz [2,3,0] _ i hi) (by simp)).mono ?_;rintro e wf ⟨f,rfl,hin,hcx,hkx⟩;have HS2:=hide ((TW.new _).draw hcx hkx);clear hcx hkx hin TW;go_wp2_with fail;refine(asj c 4 _ HS2.cur (by omega) (by omega)).mono ?_;rintro e wp ⟨p,rfl,hp0,hp1,hcx,hkx⟩;have Xa:=hide (HS2.draw hcx hkx);clear hcx hkx HS2;obtain⟨⟨c0,c1,c2,c3,c4,c5,c6,c7,c8,c9,c10⟩,f0,f1,f2,f3,f4,f5,f6,f7,f8,f9,f10⟩:=dP Xa.own;have hzg:=jh Xa.own;go_wp2_with fail;go_meet
   case rel=>exact⟨rfl,⟨6,0,⟨#[]⟩,0,⟨2,f,1,(1+p),0,⟨#[]⟩,0⟩⟩,Xa.far (o':=⟨6,0,⟨#[]⟩,0,⟨2,f,1,(1+p),0,⟨#[]⟩,0⟩⟩) (Nr (Below.refl _ _) (Nat.le_refl _)) (abh Xa.own),by dsimp only;first|exact hks|decide,by dsimp only;first|exact hks|decide⟩
 case rest=>
 obtain⟨rfl,⟨K,no,k,n,⟨mK,mF,mT,mI,mL,mk,mN⟩⟩,hst,gs,gm⟩:=hcut;dsimp only at gs gm;clear TW hz0 hz1 hy0 hy1 hn0 hn1 hks;have HS:=hide hst;clear hst;go_wp2_with fail;refine(asj c 30 _ HS.cur (by omega) (by omega)).mono ?_;rintro e wz2 ⟨z2,rfl,atM,atN,hcx,hkx⟩;have TW:=hide (HS.draw hcx hkx);clear hcx hkx HS;go_upto_block 1 with fail;go_cut [5] (fun p wx=>p= .pointer (some ⟨g,0,none⟩)∧∃o:jE,OSt w c g o wx∧o.k.size≤20∧o.m.k.size≤20)
 case first=>
  have hzc:z2=0∨z2=1∨z2=2∨z2=3∨4≤z2:=by omega
  rcases hzc with rfl|rfl|rfl|rfl|h4
  ·clear atM atN;go_wp2_with fail;refine(asn c wz2.heap.size 3 [-1,7,2] _ (asl TW.cur _) (by have:=TW.cur.lt;omega) (by simp) (by simp) (fun i hi=>asq wz2 [-1,7,2] _ i hi) (by simp)).mono ?_;open Sb2 in exact Yb0
  ·clear atM atN;go_wp2_with fail;refine(asn c wz2.heap.size 2 [0,1000000001] _ (asl TW.cur _) (by have:=TW.cur.lt;omega) (by simp) (by simp) (fun i hi=>asq wz2 [0,1000000001] _ i hi) (by simp)).mono ?_;open Sb1 in exact Yb0
  ·clear atM atN;open Sb4 in exact Yb1
  ·clear atM atN;go_wp2_with fail;refine(asn c wz2.heap.size 3 [0,1000000001,1000000000] _ (asl TW.cur _) (by have:=TW.cur.lt;omega) (by simp) (by simp) (fun i hi=>asq wz2 [0,1000000001,1000000000] _ i hi) (by simp)).mono ?_;open Sb0 in exact Yb0
  ·have q0:(z2 == 0)=false:=by simp;omega
   have q1:(z2 == 1)=false:=by simp;omega
   have q2:(z2 == 2)=false:=by simp;omega
   have q3:(z2 == 3)=false:=by simp;omega
   clear atM atN;go_wp2_with fail;go_meet
   case rel=>exact⟨rfl,⟨K,no,k,n,⟨mK,mF,mT,mI,mL,mk,mN⟩⟩,TW,gs,gm⟩
 case rest=>
 obtain⟨rfl,o,hst,gs',gm'⟩:=hcut;clear TW atM atN gs gm;obtain⟨K,no,k,n,⟨mK,mF,mT,mI,mL,mk,mN⟩⟩:=o;have HS:=hide hst;clear hst;have hown:wc.heap[g]?=some (.cells #[.int .i64 K,.int .i64 no,.string k,.int .i64 n,.int .i64 mK,.int .i64 mF,.int .i64 mT,.int .i64 mI,.int .i64 mL,.string mk,.int .i64 mN] 34 (0,0)):=HS.own;obtain⟨⟨q0,q1,q2,q3,q4,q5,q6,q7,q8,q9,q10⟩,zz⟩:=dP hown;clear zz hown;dsimp only at gs' gm';have hzg:=jh HS.own;have hzr:=jh HS.res;have hgl:=HS.glt;obtain⟨⟨d0,d1,d2,d3,d4,d5,d6,d7,d8,d9,d10⟩,f0,f1,f2,f3,f4,f5,f6,f7,f8,f9,f10⟩:=dP HS.res;go_wp2_with fail;refine Vo (fun W' hW'=>?_);obtain⟨⟨r0,r1,r2,r3,r4,r5,r6,r7,r8,r9,r10⟩,_⟩:=dP (show W'.heap[w.heap.size]?=some (.cells (opA ⟨K,no,k,n,⟨mK,mF,mT,mI,mL,mk,mN⟩⟩) 34 (0,0)) by rw [hW'];exact abh HS.res)
 have hkk:Keeps c w W':=by
  rw [hW'];have h:=HS.keep;have hb:=Nr (b0:= .int .i64 K) (b1:= .int .i64 no) (b2:= .string k) (b3:= .int .i64 n) (b4:= .int .i64 mK) (b5:= .int .i64 mF) (b6:= .int .i64 mT) (b7:= .int .i64 mI) (b8:= .int .i64 mL) (b9:= .string mk) (b10:= .int .i64 mN) (Below.refl w.heap.size wc) (Nat.le_refl w.heap.size);exact⟨hb.os.trans h.os,hb.tape.trans h.tape,hb.output.trans h.output,Nat.le_trans h.size hb.size,fun j j1 j2=>(hb.block j j1).trans (h.block j j1 j2)⟩
 have hcc:Cur W' c:=by
  rw [hW'];exact HS.cur.below (Nr (Below.refl w.heap.size wc) (Nat.le_refl w.heap.size)) hcl
 exact bodyPost_ret (v:=jH ⟨K,no,k,n,⟨mK,mF,mT,mI,mL,mk,mN⟩⟩) (by simp[results,Tryz.results33,go_sem,r0,r1,r2,r3,r4,r5,r6,r7,r8,r9,r10]) rfl ⟨⟨K,no,k,n,⟨mK,mF,mT,mI,mL,mk,mN⟩⟩,rfl,gs',gm',hcc,hkk⟩
end Go.Proofs.YtacgbldlonoaaaaGreatDoor
