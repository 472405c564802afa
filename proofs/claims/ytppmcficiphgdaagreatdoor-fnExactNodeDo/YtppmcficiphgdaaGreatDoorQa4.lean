/-
  NdHas, NdPlaceS, NdToldS, NdSeenL.
-/
import Derived.Test.YtppmcficiphgdaaGreatDoorQa3
import Derived.Test.YtppmcficiphgdaaGreatDoorQaZ3
import Derived.Deep.QuietTactic
import Derived.BigQuiet
import Derived.Lib.QuietBelow
import Derived.Deep.DeepCutAuto
import Derived.Deep.CutBlock
namespace Go.Proofs.YtppmcficiphgdaaGreatDoor
set_option maxHeartbeats 1000000
set_option maxRecDepth 100000
open Go.RowKit
open Mth
theorem Mth.has_snoc (l:List Int) (x:Int) (k:Nat) (h:k < l.length):hasB (l.take (k+1)) x=(hasB (l.take k) x||decide (l[k]=x)):=by
 unfold hasB;rw [List.take_succ_eq_append_getElem h,List.any_append];simp
theorem Mth.has_yes (l:List Int) (x:Int) (k:Nat) (h:k < l.length) (hx:l[k]=x):hasB l x=true:=by
 unfold hasB;rw [List.any_eq_true];exact⟨l[k],List.getElem_mem h,by simp[hx]⟩
theorem specHas (a:Option Addr) (cap:Nat) (l:List Int) (x:Int) (w:World) (hl:l.length≤1048600) (ha:IntsAt w a l):
 Calls Tryz.prog 124 #[.slice a l.length cap,.int .i64 x] w fun e w'=>e= .returned (.bool (hasB l x))∧w=w':=by
 have HA:=hide ha;clear ha;go_enter Tryz.func124,Tryz.ntmps124
 go_wp2_with fail;go_loop [5] (fun i=>∃k:Nat,k≤l.length∧i= .int .i64 k∧hasB (l.take k) x=false) (fun i=>l.length - (intOf i).toNat)
 case atStart=>exact⟨0,Nat.zero_le _,rfl,rfl⟩
 case round=>
  obtain⟨k,hk,rfl,hno⟩:=hrel;have HN:=hide hno;clear hno;by_cases hlt:k < l.length
  ·obtain⟨g,off,rfl,hgw,q0⟩:=IntsAt.one HA k hlt;by_cases hx:l[k]=x
   ·have HY:=hide (has_yes l x k hlt hx);rw [hx] at q0;clear hx;go_wp2_with fail;go_ret;exact⟨ret_bool HY.symm,rfl⟩
   ·have HS:=hide (has_snoc l x k hlt);rw [decide_eq_false hx] at HS;exact Za59
  ·open Sa70 in exact Ya17
theorem specNear (n:Nd) (A:Ads) (x:Int) (w:World) (hl:n.kids.length≤1048600) (ha:IntsAt w A.k n.kids):
 Calls Tryz.prog 49 #[ndv n A,.int .i64 x] w fun e w'=>e= .returned (.bool (nearB n x))∧Below w.heap.size w w':=by
 have HH:=hide (specHas A.k A.ck n.kids x (w.alloc (.cells (ndc n A) 30)) hl (GR.At.below ha (below_one w _)));clear ha;by_cases h0:0≤x
 ·by_cases h1:x=n.par
  ·have HN:=hide (show nearB n x=true by unfold nearB;rw [decide_eq_true h0,decide_eq_true h1];rfl);have h2:(x == n.par)=true:=by simp[h1]
   clear h1;go_enter Tryz.func49,Tryz.ntmps49
   go_wp2_with fail;exact Za60
  ·have HN:=hide (show nearB n x=hasB n.kids x by simp[nearB,h1]);have h2:(x == n.par)=false:=by simp[h1]
   clear h1;exact Za88
 ·have HN:=hide (show nearB n x=hasB n.kids x by simp[nearB,h0]);exact Za88
set_option maxHeartbeats 4000000
theorem qNode (x:Int) (b:Bool) (hb:ndB x=b) (W:World) (n:Nat):Calls Tryz.prog 123 #[.int .i64 x] (W.drewN n) fun e w''=>e= .returned (.bool b)∧∃m,w''=W.drewN m:=
 (l04Node x b _ hb).mono fun _ _ ⟨he,hw⟩=>⟨he,n,hw.symm⟩
theorem Mth.place_head {n:Nd} (h:(ndB n.id&&decide (-1≤n.par∧n.par≤29)&&decide (n.par≠n.id)&&decide (n.kids.length≤30))=false):placeB n=false:=by
 unfold placeB;rw [h];rfl
theorem Mth.place_tail {n:Nd} (h1:ndB n.id=true) (h2: -1≤n.par∧n.par≤29) (h3:n.par≠n.id) (h4:n.kids.length≤30):placeB n=chk (kidB n.id n.par) ltB n.kids:=by
 unfold placeB;rw [h1,decide_eq_true h2,decide_eq_true h3,decide_eq_true h4];rfl
theorem specPlace (n:Nd) (A:Ads) (w:World) (hl:n.kids.length≤1048600) (ha:IntsAt w A.k n.kids):
 Calls Tryz.prog 43 #[ndv n A] w fun e w'=>e= .returned (.bool (placeB n))∧Below w.heap.size w w':=by
 have HA:=hide ha;have HD:=hide (@place_head n);have HTL:=hide (@place_tail n);have HCB:=hide (fun k h=>chk_bad (kidB n.id n.par) ltB n.kids k h);have HCF:=hide (chk_first (kidB n.id n.par) ltB n.kids);have HCN:=hide (chk_next (kidB n.id n.par) ltB n.kids);clear ha;open Sa108 in exact Ya26
set_option maxHeartbeats 8000000
theorem cell_grown' {w:World} {a:Addr} {v:Value} (h:w.cell? a=some v):∀d os,(Sort.grow (redrawn w d) os).cell? a=some v:=fun d os=>cell_regrown h d os
theorem rNear (n:Nd) (A:Ads) (x:Int) (b:Bool) (wc:World) (hl:n.kids.length≤1048600) (ha:IntsAt wc A.k n.kids) (hb:nearB n x=b):∀d os,Calls Tryz.prog 49 #[ndv n A,.int .i64 x] (Sort.grow (redrawn wc d) os) fun e w''=>e= .returned (.bool b)∧∃p:Regrown,w''=Sort.grow (redrawn wc p.d) p.os:=fun d os=>by
 rw [←hb];exact Calls.regrown_of (specNear n A x _ hl (GR.At.below ha (below_regrown wc d os)))
theorem rSome (x:Int) (b:Bool) (wc:World) (hb:smB x=b):∀d os,Calls Tryz.prog 46 #[.int .i64 x] (Sort.grow (redrawn wc d) os) fun e w''=>e= .returned (.bool b)∧∃p:Regrown,w''=Sort.grow (redrawn wc p.d) p.os:=fun _ _=>
 Calls.regrown_of ((l04Some x b _ hb).mono fun _ _ ⟨he,hw⟩=>⟨he,hw▸Below.refl _ _⟩)
theorem qIn (x a b:Int) (r:Bool) (hb:decide (a≤x∧x≤b)=r) (W:World) (n:Nat):Calls Tryz.prog 48 #[.int .i64 x,.int .i64 a,.int .i64 b] (W.drewN n) fun e w''=>e= .returned (.bool r)∧∃m,w''=W.drewN m:=
 (l01InR x a b r _ hb).mono fun _ _ ⟨he,hw⟩=>⟨he,n,hw.symm⟩
theorem three {w:World} {g:Nat} {v0 v1 v2:Value} {t:TypeId} (h:w.heap[g]?=some (.cells #[v0,v1,v2] t (0,0))):
 w.cell? ⟨g,0,none⟩=some v0∧w.cell? ⟨g,1,none⟩=some v1∧w.cell? ⟨g,2,none⟩=some v2:=by
 have hc:∀i,w.cell? ⟨g,i,none⟩=#[v0,v1,v2][i]?:=fun i=>cell_of_row w g i _ t (0,0) h
 exact⟨hc 0,hc 1,hc 2⟩
theorem specTold (n:Nd) (A:Ads) (w:World) (hl:n.kids.length≤1048600) (hl2:n.seen.length≤1048600) (hl3:∀s∈n.seen,s.ids.length≤1048600) (ha:IntsAt w A.k n.kids) (hs:SeenAt w A.s n.seen):
 Calls Tryz.prog 45 #[ndv n A] w fun e w'=>e= .returned (.bool (toldB n))∧Below w.heap.size w w':=by
 have HA:=hide ha;have HS:=hide hs;have HL3:=hide hl3;have HD:Hid (toldB n=(decide ((n.seen.length:Int)=n.kids.length+(if 0≤n.par then 1 else 0))&&chk (fun s=>nearB n s.f&&snB s) (fun s t=>ltB s.f t.f) n.seen)):=rfl;have HCB:=hide (fun k h=>chk_bad (fun s=>nearB n s.f&&snB s) (fun s t=>ltB s.f t.f) n.seen k h);have HCF:=hide (chk_first (fun s=>nearB n s.f&&snB s) (fun s t=>ltB s.f t.f) n.seen);have HCN:=hide (chk_next (fun s=>nearB n s.f&&snB s) (fun s t=>ltB s.f t.f) n.seen);have HNR:=hide (fun x b wc (ha:IntsAt wc A.k n.kids) (hb:nearB n x=b)=>rNear n A x b wc hl ha hb);have HBX:=hide (heap_alloc_new w (.cells (ndc n A) 30));clear ha hs hl3;generalize hpp:(fun s=>nearB n s.f&&snB s)=PP at *;have HPP:Hid (∀s,PP s=(nearB n s.f&&snB s)):=by intro s;rw [←hpp]
 clear hpp;generalize hrr:(fun s t:Sn=>ltB s.f t.f)=RR at *;have HRR:Hid (∀s t,RR s t=ltB s.f t.f):=by intro s t;rw [←hrr]
 clear hrr;generalize hnn:nearB n=NN at *;clear hnn;generalize htt:toldB n=TT at *;clear htt;open Sa109 in exact Ya26
set_option maxHeartbeats 2000000
abbrev seenV (s:Sn) (b:Option Addr) (c:Nat):Value:= .agg #[.int .i64 s.f,.int .i64 s.l,.slice b s.ids.length c]
theorem infoSeen:(Tryz.prog.info? 81).map (fun i=>(i.zero,i.size,i.bytes))=some (some (.agg #[.int .i64 0,.int .i64 0,.slice none 0 0]),3,40):=by kernel_rfl
theorem makeSeen (n:Nat) (hn:n≤2000000):∀W:World,(Instr.makeSlice 27 (.int .i64 (n:Int)) (.int .i64 (n:Int))).run Tryz.prog W= .ok (.slice (some ⟨W.heap.size,0,none⟩) n n) (W.alloc (.cells (GR.flat encR3 (List.replicate n ⟨0,0,.slice none 0 0⟩)).toArray 81)):=by
 obtain⟨i0,hi,hz0,hz1,hz2⟩:=info_parts infoSeen;intro W;have h:=run_make (P:=Tryz.prog) W 27 81 i0 (.agg #[.int .i64 0,.int .i64 0,.slice none 0 0]) Tryz.underlying27 hi hz0 .i64 .i64 (n:Int) (n:Int) (by omega) (by omega) (by rw [hz2];omega) (by omega);rw [hz1] at h;have e:=GR.made_flat encR3 3 encR3_length (by omega) ⟨0,0,.slice none 0 0⟩ (Value.cells (.agg #[.int .i64 0,.int .i64 0,.slice none 0 0])) rfl n;exact Za53
theorem blk_setO {w:World} {c:Nat} {cs:Array Value} {t:TypeId} (h:w.heap[c]?=some (.cells cs t (0,0))) (i:Nat) (v:Value):(w.setCell ⟨c,i,none⟩ v).heap[c]?=some (.cells (cs.setIfInBounds i v) t (0,0)):=by
 exact Za71
theorem oth_set {w:World} {g g' i:Nat} {v:Value} {o:Option Obj} (h:w.heap[g']?=o) (hne:g'≠g):(w.setCell ⟨g,i,none⟩ v).heap[g']?=o:=by rw [Below.heap_setCell _ _ _ _ hne,h]
theorem allocs3 (w:World) (a b c:Obj):(((w.alloc a).alloc b).alloc c).heap[w.heap.size]?=some a∧(((w.alloc a).alloc b).alloc c).heap[w.heap.size+1]?=some b∧(((w.alloc a).alloc b).alloc c).heap[w.heap.size+1+1]?=some c∧Below w.heap.size w (((w.alloc a).alloc b).alloc c):=by
 have e1:(w.alloc a).heap.size=w.heap.size+1:=by simp
 have e2:((w.alloc a).alloc b).heap.size=w.heap.size+1+1:=by simp
 have h1:=heap_alloc_new w a;have h2:=heap_alloc_new (w.alloc a) b;have h3:=heap_alloc_new ((w.alloc a).alloc b) c;rw [e1] at h2;rw [e2] at h3;refine⟨?_,?_,h3,((below_one w _).alloc (by simp) _).alloc (by simp;omega) _⟩
 ·rw [Below.heap_alloc _ _ _ (by rw [e2];omega),Below.heap_alloc _ _ _ (by rw [e1];omega)];exact h1
 ·rw [Below.heap_alloc _ _ _ (by rw [e2];omega)];exact h2
theorem bodyPost_atN {P:Program} {fn:Func} {Q:Ending→World→Prop} {x:Exit} {act:Act} {W:World} (h:∀W',W'=W→bodyPost P fn Q x act W'):bodyPost P fn Q x act W:=h W rfl
theorem toSeen (s:Sn) (b:Option Addr) (c:Nat) (w:World) (hl:s.ids.length≤1048576) (ha:IntsAt w b s.ids):
 Calls Tryz.prog 140 #[seenV s b c] w fun e w'=>∃g,w.heap.size≤g∧e= .returned (seenV s (some ⟨g,0,none⟩) s.ids.length)∧intBlk w' g s.ids∧Below w.heap.size w w':=by
 obtain⟨fr,lo,ids⟩:=s;dsimp only at hl ha ⊢;have HA:=hide ha;clear ha;go_enter Tryz.func140,Tryz.ntmps140
 go_upto_region 4 with fail;refine wp_at (fun W0 hW0=>?_);obtain⟨hP,hR,hO,hB⟩:=allocs3 w (.cells #[.int .i64 fr,.int .i64 lo,.slice b ids.length c] 164) (.cells #[.int .i64 0,.int .i64 0,.slice none 0 0] 81) (.cells #[.int .i64 fr,.int .i64 lo,.slice none 0 0] 81);rw [←hW0] at hP hR hO hB;have HP:=hide hP;have HR:=hide hR;have HO:=hide hO;have HB:=hide hB;clear hP hR hO hB hW0;obtain⟨c0,c1,c2⟩:=three HP;have HT:=hide (toIntS b c ids W0 hl (GR.At.below HA HB));go_wp2_with fail;refine HT.mono ?_;rintro e w1 ⟨rfl,hblk,hb1⟩;have HR1:=hide (obj_step HR hb1);have HO1:=hide (obj_step HO hb1);have HI1:=hide hblk;have HB1:=hide (HB.trans (hb1.mono HB.size));have HLT:=hide (obj_lt HO);clear hblk hb1 c0 c1 c2 HT;obtain⟨d0,d1,d2⟩:=three HO1;obtain⟨r0,r1,r2⟩:=three HR1;have f0:=obj_free HO1 2;have f1:=obj_free HR1 0;have f2:=obj_free HR1 1;have f3:=obj_free HR1 2;go_wp2_with fail;refine bodyPost_atN (fun W' hW'=>?_);have hR:=blk_setO (blk_setO (blk_setO (oth_set (g:=w.heap.size+1+1) (i:=2) (v:= .slice (some ⟨W0.heap.size,0,none⟩) ids.length ids.length) HR1 (by omega)) 0 (.int .i64 fr)) 1 (.int .i64 lo)) 2 (.slice (some ⟨W0.heap.size,0,none⟩) ids.length ids.length);obtain⟨x0,x1,x2⟩:=three (show W'.heap[w.heap.size+1]?=some (.cells #[.int .i64 fr,.int .i64 lo,.slice (some ⟨W0.heap.size,0,none⟩) ids.length ids.length] 81 (0,0)) by rw [hW'];exact hR);have hlt:=unhide HLT;refine bodyPost_ret (v:=seenV ⟨fr,lo,ids⟩ (some ⟨W0.heap.size,0,none⟩) ids.length) (by simp[results,Tryz.results140,go_sem,x0,x1,x2]) rfl ⟨W0.heap.size,by omega,rfl,?_,?_⟩
 ·rw [hW'];exact oth_set (oth_set (oth_set (oth_set HI1 (by omega)) (by omega)) (by omega)) (by omega)
 ·rw [hW'];exact(((HB1.setCell (p:=⟨w.heap.size+1+1,2,none⟩) (by show w.heap.size≤w.heap.size+1+1;omega) _).setCell (p:=⟨w.heap.size+1,0,none⟩) (by show w.heap.size≤w.heap.size+1;omega) _).setCell (p:=⟨w.heap.size+1,1,none⟩) (by show w.heap.size≤w.heap.size+1;omega) _).setCell (p:=⟨w.heap.size+1,2,none⟩) (by show w.heap.size≤w.heap.size+1;omega) _
abbrev r3Blk (w:World) (g:Nat) (T:List R3):Prop:=GR.Blk encR3 81 w g T
theorem r3Blk.three {w:World} {g:Nat} {l:List R3} (h:r3Blk w g l) (i:Nat) (hi:i < l.length):w.cell? ⟨g,i*3,none⟩=some (.int .i64 l[i].f)∧w.cell? ⟨g,i*3+1,none⟩=some (.int .i64 l[i].l)∧w.cell? ⟨g,i*3+2,none⟩=some l[i].v:=
 ⟨by simpa using GR.Blk.cell h encR3_length i hi 0 (by omega),by simpa using GR.Blk.cell h encR3_length i hi 1 (by omega),by simpa using GR.Blk.cell h encR3_length i hi 2 (by omega)⟩
theorem toSeenS (a:Option Addr) (cap:Nat) (l:List Sn) (w:World) (hl:l.length≤1048576) (hl2:∀s∈l,s.ids.length≤1048576) (ha:SeenAt w a l):
 Calls Tryz.prog 67 #[.slice a l.length cap] w fun e w'=>e= .returned (.slice (some ⟨w.heap.size,0,none⟩) l.length l.length)∧(∃(T:List R3) (I:Nat→Nat),r3Blk w' w.heap.size T∧T.length=l.length∧(∀i,i < l.length→w.heap.size < I i∧I i < w'.heap.size∧T[i]?=some ⟨(l.getD i default).f,(l.getD i default).l,.slice (some ⟨I i,0,none⟩) (l.getD i default).ids.length (l.getD i default).ids.length⟩∧intBlk w' (I i) (l.getD i default).ids)∧(∀i j,i < j→j < l.length→I i < I j))∧Below w.heap.size w w':=by
 have hmk:=makeSeen l.length (by omega);have HA:=hide ha;have HL2:=hide hl2;clear ha hl2;go_enter Tryz.func67,Tryz.ntmps67
 go_wp2_with fail;go_loopw [4] (fun i wr=>∃(k:Nat) (T:List R3) (I:Nat→Nat),k≤l.length∧i= .int .i64 k∧r3Blk wr w.heap.size T∧T.length=l.length∧(∀i,i < k→w.heap.size < I i∧I i < wr.heap.size∧T[i]?=some ⟨(l.getD i default).f,(l.getD i default).l,.slice (some ⟨I i,0,none⟩) (l.getD i default).ids.length (l.getD i default).ids.length⟩∧intBlk wr (I i) (l.getD i default).ids)∧(∀i j,i < j→j < k→I i < I j)∧Below w.heap.size w wr) (fun i _=>l.length - (intOf i).toNat)
 case atStart=>exact⟨0,List.replicate l.length ⟨0,0,.slice none 0 0⟩,fun i=>i,Nat.zero_le _,rfl,heap_alloc_new w _,by simp,fun i hi=>by omega,fun i j _ hj=>by omega,below_one w _⟩
 case round=>
  obtain⟨k,T,I,hk,rfl,hB,hTl,hI,hIm,hbel⟩:=hrel;have HB:=hide hB;have HBL:=hide hbel;have HI:=hide hI;have HIM:=hide hIm;clear hB hbel hmk hI hIm;by_cases hlt:k < l.length
  ·obtain⟨g,off,b,c,e0,hgw,q0,q1,q2,hX⟩:=SeenAt.below HA HBL k hlt;subst e0;have hs:=unhide HL2 _ (List.getElem_mem hlt);have HTO:=hide (toSeen l[k] b c wr hs hX);have hgd:l.getD k default=l[k]:=by rw [List.getD_eq_getElem?_getD,List.getElem?_eq_getElem hlt];rfl
   have HGD:=hide hgd;clear hX hgd;generalize l[k]=sk at *;obtain⟨fr,lo,ids⟩:=sk;dsimp only at q0 q1 q2 hs;go_wp2_with fail;refine HTO.mono ?_;rintro e w5 ⟨g5,hg5,rfl,hI5,hb5⟩;have HB5:Hid (r3Blk w5 w.heap.size T):=obj_step HB hb5;have HBL5:=hide (HBL.trans (hb5.mono HBL.size));have HI5:=hide hI5;have HS5:=hide hb5;have hg5':=obj_lt hI5;have hwl:=obj_lt HB;clear hb5 q0 q1 q2 hI5 HTO;obtain⟨s0,s1,s2⟩:=r3Blk.three HB5 k (by omega);have f0:=GR.Blk.free HB5 (k*3);have f1:=GR.Blk.free HB5 (k*3+1);have f2:=GR.Blk.free HB5 (k*3+2);go_wp2_with fail;go_roundw
   case rel=>
    have h:=GR.Blk.set HB5 encR3_length k (by omega) ⟨fr,lo,.slice (some ⟨g5,0,none⟩) ids.length ids.length⟩;refine⟨k+1,T.set k ⟨fr,lo,.slice (some ⟨g5,0,none⟩) ids.length ids.length⟩,fun i=>if i=k then g5 else I i,by omega,by go_num,h,by simpa using hTl,?_,?_,GR.setW_below (o:=k*3) (Nat.le_refl w.heap.size) (encR3 ⟨fr,lo,.slice (some ⟨g5,0,none⟩) ids.length ids.length⟩) HBL5⟩
    ·intro i hi;have hsz:∀X:Nat,X < w5.heap.size→X < (GR.setW w5 w.heap.size (k*3) (encR3 ⟨fr,lo,.slice (some ⟨g5,0,none⟩) ids.length ids.length⟩)).heap.size:=fun X hX=>Nat.lt_of_lt_of_le hX (GR.setW_below (B:=0) (a:=w5) (o:=k*3) (Nat.zero_le w.heap.size) _ ⟨rfl,rfl,rfl,Nat.le_refl _,fun _ h=>absurd h (Nat.not_lt_zero _)⟩).size
     by_cases hik:i=k
     ·subst hik;simp only[if_true];rw [unhide HGD];exact⟨by omega,hsz _ hg5',by rw [List.getElem?_set_self (by omega)],(GR.setW_other (g:=w.heap.size) (g':=g5) (by omega) (encR3 ⟨fr,lo,.slice (some ⟨g5,0,none⟩) ids.length ids.length⟩) (w:=w5) (o:=i*3)).trans HI5⟩
     ·simp only[if_neg hik];obtain⟨h1,h2,h3,h4⟩:=unhide HI i (by omega);refine⟨h1,hsz _ (Nat.lt_of_lt_of_le h2 HS5.size),by rw [List.getElem?_set_ne (by omega)];exact h3,(GR.setW_other (g:=w.heap.size) (g':=I i) (by omega) (encR3 ⟨fr,lo,.slice (some ⟨g5,0,none⟩) ids.length ids.length⟩) (w:=w5) (o:=k*3)).trans (obj_step h4 HS5)⟩
    ·intro i j hij hj;by_cases hjk:j=k
     ·subst hjk;simp only[if_true,if_neg (show¬i=j by omega)];have:=(HI i (by omega)).2.1;omega
     ·simp only[if_neg hjk,if_neg (show¬i=k by omega)];exact HIM i j hij (by omega)
   case measure=>simp[intOf];omega
  ·open Sa71 in exact Ya17
theorem szSeen (s:Sn) (b:Option Addr) (c:Nat) (left:Int) (w:World) (h0:0≤left) (h1:left≤1048576) (hk:s.ids.length≤maxLen):Calls Tryz.prog 127 #[seenV s b c,.int .i64 left] w fun e w'=>e= .returned (.int .i64 (if (s.ids.length:Int)≤left then left - s.ids.length else -1))∧Below w.heap.size w w':=by
 obtain⟨fr,lo,ids⟩:=s;dsimp only at hk ⊢;have HI:=hide (fun w1=>szIntS b c ids left w1 h0 h1 hk);by_cases hc:(ids.length:Int)≤left
 ·rw [if_pos hc] at HI ⊢;have hn:¬(left - (ids.length:Int) < 0):=by omega
  exact Za70
 ·rw [if_neg hc] at HI ⊢;exact Za70
theorem szSeenS (a:Option Addr) (ca:Nat) (l:List Sn) (z0:Int) (w:World) (h0:0≤z0) (h1:z0≤1048576) (hl:l.length≤maxLen) (hks:∀p∈l,p.ids.length≤maxLen) (ha:SeenAt w a l):
 Calls Tryz.prog 54 #[.slice a l.length ca,.int .i64 z0] w fun e w'=>∃r:Int,e= .returned (.int .i64 r)∧Below w.heap.size w w'∧(r= -1∨0≤r∧r≤1048576∧l.length≤1048576∧∀p∈l,p.ids.length≤1048576):=by
 have HA:=hide ha;clear ha;unfold maxLen at hl;by_cases hbig:(l.length:Int)≤z0
 ·have hn:¬(z0 - (l.length:Int) < 0):=by omega
  go_enter Tryz.func54,Tryz.ntmps54
  go_wp2_with fail;go_loopw [1,5] (fun lf i wr=>∃(k:Nat) (z:Int),k≤l.length∧i= .int .i64 k∧lf= .int .i64 z∧0≤z∧z≤1048576∧(∀p∈l.take k,p.ids.length≤1048576)∧Below w.heap.size w wr) (fun _ i _=>l.length - (intOf i).toNat)
  case atStart=>exact Za31
  case round=>
   open Sa247 in exact Ya64
 ·have hn:z0 - (l.length:Int) < 0:=by omega
  go_enter Tryz.func54,Tryz.ntmps54
  exact Za56
theorem eqSeen (s:Sn) (b b':Option Addr) (c c':Nat) (w:World) (hl:s.ids.length≤1048600) (ha:IntsAt w b s.ids) (hb:IntsAt w b' s.ids):Calls Tryz.prog 144 #[seenV s b c,seenV s b' c'] w fun e w'=>e= .returned (.bool true)∧Below w.heap.size w w':=by
 obtain⟨fr,lo,ids⟩:=s;dsimp only at hl ha hb ⊢;have hbx:Below w.heap.size w ((w.alloc (.cells #[.int .i64 fr,.int .i64 lo,.slice b ids.length c] 81)).alloc (.cells #[.int .i64 fr,.int .i64 lo,.slice b' ids.length c'] 81)):=(below_one w _).alloc (by simp) _;have HE:=hide (eqIntS b b' c c' ids _ hl (GR.At.below ha hbx) (GR.At.below hb hbx));have HBX:=hide hbx;clear ha hb hbx;go_enter Tryz.func144,Tryz.ntmps144
 go_wp2_with fail;refine HE.mono ?_;rintro e w1 ⟨rfl,hb1⟩;have HB1:=hide (HBX.trans (hb1.mono HBX.size));clear hb1;go_wp2_with fail;go_ret;exact⟨rfl,HB1⟩
theorem eqSeenS (a b:Option Addr) (ca cb:Nat) (l:List Sn) (w:World) (hl:l.length≤1048600) (hl2:∀s∈l,s.ids.length≤1048600) (ha:SeenAt w a l) (hb:SeenAt w b l):
 Calls Tryz.prog 73 #[.slice a l.length ca,.slice b l.length cb] w fun e w'=>e= .returned (.bool true)∧Below w.heap.size w w':=by
 have HA:=hide ha;have HB:=hide hb;have HL2:=hide hl2;clear ha hb hl2;go_enter Tryz.func73,Tryz.ntmps73
 go_wp2_with fail;go_loopw [5] (fun i wr=>∃k:Nat,k≤l.length∧i= .int .i64 k∧Below w.heap.size w wr) (fun i _=>l.length - (intOf i).toNat)
 case atStart=>exact Za32
 case round=>
  obtain⟨k,hk,rfl,hbel⟩:=hrel;have HBL:=hide hbel;clear hbel;by_cases hlt:k < l.length
  ·obtain⟨g1,o1,b1,c1,e1,hg1,s0,s1,s2,hI1⟩:=SeenAt.below HA HBL k hlt;obtain⟨g2,o2,b2,c2,e2,hg2,t0,t1,t2,hI2⟩:=SeenAt.below HB HBL k hlt;subst e1 e2;have hs:=unhide HL2 _ (List.getElem_mem hlt);generalize l[k]=pu at *;have HEQ:Hid (∀w1,Below wr.heap.size wr w1→Calls Tryz.prog 144 #[seenV pu b1 c1,seenV pu b2 c2] w1 fun e w'=>e= .returned (.bool true)∧Below w1.heap.size w1 w'):=fun w1 hbb=>eqSeen pu b1 b2 c1 c2 w1 hs (GR.At.below hI1 hbb) (GR.At.below hI2 hbb)
   clear hI1 hI2;obtain⟨fr,lo,ids⟩:=pu;dsimp only at s0 s1 s2 t0 t1 t2 hs;go_wp2_with fail;have cE:∀d os,Calls Tryz.prog 144 #[seenV ⟨fr,lo,ids⟩ b1 c1,seenV ⟨fr,lo,ids⟩ b2 c2] (Sort.grow (redrawn wr d) os) fun e w''=>e= .returned (.bool true)∧∃p:Regrown,w''=Sort.grow (redrawn wr p.d) p.os:=fun d os=>Calls.regrown_of (HEQ _ (below_regrown wr d os))
   have k0:=cell_grown' s0;have k1:=cell_grown' s1;have k2:=cell_grown' s2;have m0:=cell_grown' t0;have m1:=cell_grown' t1;have m2:=cell_grown' t2;refine wp_region_quiet_below (by kernel_rfl) (by kernel_rfl) ?_;repeat (first|go_big_quiet_step ((go_at_call 144;exact cE _ _))|quiet_step ((go_at_call 144;exact cE _ _)))
   refine wpQuiet_nil ?_;intro _ hw';obtain⟨⟨dq,osq⟩,hw''⟩:=hw';subst hw'';go_wp2_with fail;go_roundw
   case rel=>exact⟨k+1,by omega,by go_num,HBL.trans ((below_regrown _ dq osq).mono HBL.size)⟩
   case measure=>simp[intOf];omega
  ·exact Za19
end Go.Proofs.YtppmcficiphgdaaGreatDoor
