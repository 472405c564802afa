/- Parts. -/
import Derived.Test.YtacgbldlonoaaaaGreatDoorRa14
namespace Go.Proofs.YtacgbldlonoaaaaGreatDoor
set_option maxHeartbeats 2000000
set_option maxRecDepth 100000
open Go.RowKit Go.Maps
open Mth
def Hz (l:List Pu) (key:ByteArray):List ByteArray:=(l.map (·.k)).take (place l key)++key::(l.map (·.k)).drop (place l key)
theorem Si (l:List Pu) (key:ByteArray):rV (l.map (·.k)) (place l key) key=(Hz l key).map Value.string:=by
 unfold rV Hz;simp
theorem xS (l:List Pu) (key:ByteArray):(Hz l key).length=l.length+1:=by
 unfold Hz;have:=jP l key;simp;omega
theorem EH {l:List Pu} {p:Pu} (h:found l p.k=false):(gV l p).map (·.k)=Hz l p.k:=by
 rw [sQ h];unfold Hz;simp
theorem Ke (B mp mb n:Nat) (v:Value) (l:List Pu) (G:ByteArray→Pu) (key:ByteArray) (E:Nat→Addr) (w:World) (hp:l.Pairwise Ez) (hl:l.length≤20) (hB:B≤w.heap.size) (h:PM w B mp mb n v (l.map (·.k)) G) (he:gW w E):
 Calls Tryz.prog 262 #[.pointer (some ⟨mp,0,none⟩),.string key] w fun e w'=>Below B w w'∧(∀k,k < w.heap.size→k≠mp→v.ownBlock≠some k→w'.heap[k]?=w.heap[k]?)∧
  ((found l key=true∧e= .returned .nilIface∧PM w' B mp mb n v (l.map (·.k)) G)∨
   (found l key=false∧l.length=20∧e= .returned (qx (E 4)))∨
   (found l key=false∧l.length < 20∧e= .returned .nilIface∧∃v',PM w' B mp mb n v' (Hz l key) G)):=by
 have hrow:=h.row;rw [List.length_map] at hrow
 obtain⟨a,cap,rfl⟩:∃a cap,v= .slice a l.length cap:=by
  exact Zk
 have HBS:=hide (anB B _ l key w hp hl hrow);have hmp:=Fo.lt_of_blk h.blk;have hmb:=h.map.lt;obtain⟨⟨m0,m1⟩,f0,f1⟩:=jT h.blk;have ve:=he.var 4 (by omega);have HH:=hide h;have HR:=hide hrow;clear h hrow he;cases hf:found l key
 ·by_cases h20:l.length=20
  ·have anR:((l.length:Int) == 20)=true:=by simp;omega
   have H20:=hide h20;clear h20;open ajA in exact Qt
  ·have anR:((l.length:Int) == 20)=false:=by simp;omega
   open ajz in exact Qt
 ·open ajy in exact Qt
end Go.Proofs.YtacgbldlonoaaaaGreatDoor
namespace Go.Proofs.YtacgbldlonoaaaaGreatDoor
set_option maxHeartbeats 4000000
set_option maxRecDepth 100000
open Go.RowKit Go.Maps
open Mth
theorem BD (p:Pu) (dm df ds n:Int) (E:Nat→Addr) (w:World) (hp:fH p=true) (h1: -1000000000≤dm*n∧dm*n≤1000000000) (h2: -1000000000≤df*n∧df*n≤1000000000) (h3: -1000000000≤ds*n∧ds*n≤1000000000)
 (hok:fH (dR p dm df ds n)=false) (he:gW w E):
 Calls Tryz.prog 261 #[wI p,shv dm df ds,.int .i64 n] w fun e w'=>∃i,i < 5∧e= .returned (.tuple #[wI ⟨⟨#[]⟩,0,0,0⟩,qx (E i)])∧Below w.heap.size w w':=by
 by_cases hf:p.f+df*n < 0∨0≤p.f+df*n∧p.s+ds*n < 0
 ·exact(yE p dm df ds n E w hp h1 h2 h3 hf he).mono fun e w' ⟨h,hb⟩=>⟨_,by omega,h,hb⟩
 ·exact(xw p dm df ds n E w hp h1 h2 h3 (by omega) (by omega) hok he).mono fun e w' ⟨h,hb⟩=>⟨_,by omega,h,hb⟩
theorem Er (B mp mb n0:Nat) (v:Value) (l:List Pu) (key:ByteArray) (dm df ds n:Int) (E:Nat→Addr) (w:World) (hkey:key.size≤1048576) (hp:fH (aF l key)=true) (h1: -1000000000≤dm*n∧dm*n≤1000000000) (h2: -1000000000≤df*n∧df*n≤1000000000) (h3: -1000000000≤ds*n∧ds*n≤1000000000)
 (h:PM w B mp mb n0 v (l.map (·.k)) (aF l)) (he:gW w E) (hok:fH (dR (aF l key) dm df ds n)=false):
 Calls Tryz.prog 248 #[.pointer (some ⟨mp,0,none⟩),.string key,.int .i64 n,shv dm df ds] w fun e w'=>∃i,i < 5∧e= .returned (qx (E i))∧Below w.heap.size w w':=by
 have FI:=hide (fun w1 (hb:Below w.heap.size w w1)=>Eo mp mb n0 v (aF l) key w1 hkey (h.below hb).blk (h.below hb).map);have HSH:=hide (fun w1 (hb:Below w.heap.size w w1)=>BD (aF l key) dm df ds n E w1 hp h1 h2 h3 hok (he.below hb));clear h he hok hp h1 h2 h3;generalize aF l key=p at *;obtain⟨pk,pm,pf,ps⟩:=p;open afu in exact amh
theorem Hg (B mp mb n0:Nat) (v:Value) (l:List Pu) (key:ByteArray) (dm df ds n:Int) (E:Nat→Addr) (w:World) (hB:B≤w.heap.size) (hkey:key.size≤1048576) (hn0:n0 < maxLen) (hl:l.length≤20) (hpw:l.Pairwise Ez) (hp:fH (aF l key)=true) (h1: -1000000000≤dm*n∧dm*n≤1000000000) (h2: -1000000000≤df*n∧df*n≤1000000000) (h3: -1000000000≤ds*n∧ds*n≤1000000000)
 (h:PM w B mp mb n0 v (l.map (·.k)) (aF l)) (he:gW w E) (hok:fH (dR (aF l key) dm df ds n)=true):
 Calls Tryz.prog 248 #[.pointer (some ⟨mp,0,none⟩),.string key,.int .i64 n,shv dm df ds] w fun e w'=>Below B w w'∧
  ((found l key=false∧l.length=20∧e= .returned (qx (E 4)))∨
   ((found l key=true∨l.length < 20)∧e= .returned .nilIface∧∃v',PM w' B mp mb (n0+1) v' ((gV l (dR (aF l key) dm df ds n)).map (·.k)) (upd (aF l) (dR (aF l key) dm df ds n)))):=by
 have hpos:fH (dR (aF l key) dm df ds n)=true:=hok
 have hff:0≤(aF l key).f+df*n∧0≤(aF l key).s+ds*n:=by
  unfold fH at hpos;simp only[Bool.and_eq_true] at hpos;have b2:0≤(aF l key).f+df*n∧(aF l key).f+df*n≤1000000000:=of_decide_eq_true hpos.1.1.2;have b3:0≤(aF l key).s+ds*n∧(aF l key).s+ds*n≤1000000000:=of_decide_eq_true hpos.1.2;exact⟨b2.1,b3.1⟩
 have FI:=hide (fun w1 (hb:Below w.heap.size w w1)=>Eo mp mb n0 v (aF l) key w1 hkey (h.below hb).blk (h.below hb).map);have HSH:=hide (fun w1 (hb:Below w.heap.size w w1)=>Es (aF l key) dm df ds n w1 hp h1 h2 h3 hff.1 hff.2 hok);have Ui:=hide (fun w1 (hb:Below w.heap.size w w1)=>Ke B mp mb n0 v l (aF l) key E w1 hpw hl (Nat.le_trans hB hb.size) (h.below hb) (he.below hb));have Pe:=hide (fun w1 (hb:Below w.heap.size w w1)=>h.below hb);have hpk:(dR (aF l key) dm df ds n).k=key:=mh l key;have oJ:=hide (fun hf=>(qV (l:=l) (p:=dR (aF l key) dm df ds n) hf).symm);have HKN:=hide (fun hf=>(EH (l:=l) (p:=dR (aF l key) dm df ds n) hf).symm);rw [hpk] at oJ HKN;have hkk:(aF l key).k=key:=mh l key;clear h he hok hp h1 h2 h3 hpos hff hpw;unfold dR at *;generalize gV l ⟨(aF l key).k,(aF l key).m+dm*n,(aF l key).f+df*n,(aF l key).s+ds*n⟩=PL at *;generalize hG:aF l=G at *;generalize G key=p at *;obtain⟨pk,pm,pf,ps⟩:=p;dsimp only at *;subst hkk;generalize pm+dm*n=qm at *;generalize pf+df*n=qf at *;generalize ps+ds*n=qs at *;clear hG hpk;open aft in exact amh
end Go.Proofs.YtacgbldlonoaaaaGreatDoor
namespace Go.Proofs.YtacgbldlonoaaaaGreatDoor
set_option maxHeartbeats 4000000
set_option maxRecDepth 100000
open Go.RowKit Go.Maps
open Mth
namespace Mth
theorem TF {l:List Pu} (hp:l.Pairwise Ez) (k:Nat) (hk:k < l.length):upd (aF (l.take k)) l[k]=aF (l.take (k+1)):=by
 funext key
 have hsub:(l.take (k+1)).Pairwise Ez:=hp.sublist (List.take_sublist _ _);unfold upd;by_cases e:key=l[k].k
 ·rw [if_pos e,e];exact(nH hsub (List.mem_take_iff_getElem.2 ⟨k,by omega,rfl⟩)).symm
 ·rw [if_neg e];unfold aF;rw [List.take_succ_eq_append_getElem hk,List.find?_append]
  have:[l[k]].find? (fun p=>p.k.toList == key.toList)=none:=by
   rw [List.find?_eq_none];intro q hq;rw [List.mem_singleton] at hq;subst hq;simp only[beq_iff_eq];exact fun e'=>e (toList_inj e').symm
  rw [this];simp
end Mth
theorem VI:(Tryz.prog.info? 9).map (fun i=>(i.zero,i.size,i.bytes))=some (some (.string ⟨#[]⟩),1,16):=by kernel_rfl
theorem Ep (a:Option Addr) (cap:Nat) (l:List Pu) (E:Nat→Addr) (w:World) (hl:l.length≤1048600) (ha:aH w a l) (he:gW w E) (hno:ig l=false):
 Calls Tryz.prog 247 #[.slice a l.length cap] w fun e w'=>e= .returned (.tuple #[.pointer none,qx (E 2)])∧Below w.heap.size w w':=by
 have ku:=hide (oW a cap l w hl ha);have HE:=hide he;clear ha he;go_enter Tryz.func247,Tryz.ntmps247
 go_wp2_with fail;refine ku.mono ?_;rintro e w1 ⟨rfl,hb1⟩;rw [hno];have ve:=(HE.below hb1).var 2 (by omega);have HB:=hide hb1;clear hb1 ku;go_wp2_with fail;go_quiet (fail);go_wp2_with fail;go_ret2
 exact⟨rfl,HB.trans ⟨rfl,rfl,rfl,Nat.le_refl _,fun _ _=>rfl⟩⟩
theorem Bl (a:Option Addr) (cap:Nat) (l:List Pu) (w:World) (ha:aH w a l) (hks:∀p∈l,p.k.size≤1048576) (hok:ig l=true):
 Calls Tryz.prog 247 #[.slice a l.length cap] w fun e w'=>∃mp mb v,e= .returned (.tuple #[.pointer (some ⟨mp,0,none⟩),.nilIface])∧PM w' w.heap.size mp mb l.length v (l.map (·.k)) (aF l)∧Below w.heap.size w w':=by
 obtain⟨Z0,hpw,hl⟩:=(iU l).1 hok;have AR:=hide hpw;have ku:=hide (oW a cap l w (by omega) ha);have HA:=hide ha;obtain⟨i0,hi,hz0,hz1,hz2⟩:=info_parts VI;have O6:=hide hks;have hmm:= @run_makeMap Tryz.prog;clear ha hpw Z0 hks;go_enter Tryz.func247,Tryz.ntmps247
 go_wp2_with fail;refine ku.mono ?_;rintro e w1 ⟨rfl,hb1⟩;rw [hok];have HB1:=hide hb1;have hw1:=hb1.size;clear hb1 ku hok;go_wp2_with fail;go_loopw [16] (fun i wr=>∃(k:Nat) (aa:Option Addr) (cc:Nat),k≤l.length∧i= .int .i64 k∧PM wr w.heap.size (w1.heap.size+1) w1.heap.size k (.slice aa k cc) ((l.take k).map (·.k)) (aF (l.take k))∧Below w.heap.size w wr) (fun i _=>l.length - (intOf i).toNat)
 case atStart=>
  refine⟨0,none,0,Nat.zero_le _,rfl,⟨?_,?_,?_,by omega,by omega⟩,(HB1.alloc (by omega) _).alloc (by simp;omega) _⟩
  ·have:=heap_alloc_new (w1.alloc (.map #[] 0)) (.cells #[.slice none 0 0,.map (some w1.heap.size)] 306);rwa [show(w1.alloc (Obj.map #[] 0)).heap.size=w1.heap.size+1 by simp] at this
  ·exact World.ownsRow_nil _ _ _ _
  ·exact(gH.made w1).kept (Below.heap_alloc _ _ _ (by simp))
 case round=>
  obtain⟨k,aa,cc,hk,rfl,wX,hbel⟩:=hrel;have HP:=hide wX;have fD:=hide hbel;have hwr:=hbel.size;clear wX hbel;by_cases hlt:k < l.length
  ·obtain⟨g,off,rfl,hgw,c0,c1,c2,c3⟩:=aH.four (GR.At.below HA fD) k hlt;have HUP:=hide (TF AR k hlt);have Ls:=hide (List.take_succ_eq_append_getElem hlt);have hkk:=ah O6 l[k] (List.getElem_mem hlt);generalize l[k]=pu at *;obtain⟨pk,pm,pf,ps⟩:=pu;dsimp only at c0 c1 c2 c3 hkk;go_upto_region 7 with fail;refine Fo.wp_at (fun V hV=>?_);have hbV:Below wr.heap.size wr V:=by rw [hV];exact bZ wr _
   open ajo in exact XY
  ·open afX in exact DZ
end Go.Proofs.YtacgbldlonoaaaaGreatDoor
namespace Go.Proofs.YtacgbldlonoaaaaGreatDoor
set_option maxHeartbeats 2000000
set_option maxRecDepth 100000
open Go.RowKit Go.Maps
open Mth
theorem R7 (B mp mb n:Nat) (v:Value) (l:List Pu) (G:ByteArray→Pu) (w:World) (hl:l.length≤20) (hG:∀p∈l,G p.k=p) (hks:∀p∈l,p.k.size≤1048576) (h:PM w B mp mb n v (l.map (·.k)) G):
 Calls Tryz.prog 249 #[.pointer (some ⟨mp,0,none⟩)] w fun e w'=>e= .returned (.slice (some ⟨w.heap.size,0,none⟩) l.length l.length)∧qU w' w.heap.size l∧Below w.heap.size w w':=by
 have hrow:=h.row;rw [List.length_map] at hrow
 obtain⟨a,cap,rfl⟩:∃a cap,v= .slice a l.length cap:=by
  exact Zk
 have hmk:=Ik l.length (by omega);have HH:=hide h;have HG:=hide hG;have O6:=hide hks;have HR:=hide hrow;obtain⟨⟨m0,m1⟩,_⟩:=jT h.blk;have hmp:=Fo.lt_of_blk h.blk;clear h hG hks hrow;go_enter Tryz.func249,Tryz.ntmps249
 go_wp2_with fail;go_loopw [17] (fun i wr=>∃k:Nat,k≤l.length∧i= .int .i64 k∧qU wr w.heap.size (l.take k++List.replicate (l.length - k) ⟨ByteArray.empty,0,0,0⟩)∧Below w.heap.size w wr) (fun i _=>l.length - (intOf i).toNat)
 case atStart=>exact⟨0,Nat.zero_le _,rfl,by unfold qU GR.Blk;rw [List.take_zero,List.nil_append,Nat.sub_zero];exact heap_alloc_new w _,bZ w _⟩
 case round=>
  obtain⟨k,hk,rfl,hB,hbel⟩:=hrel;have HB:=hide hB;have fD:=hide hbel;clear hB hbel hmk;by_cases hlt:k < l.length
  ·obtain⟨g,cap',ev,hgl,hgw⟩:=HR.form (by omega);have ea:a=some ⟨g,0,none⟩:=by injection ev
   subst ea;have c0:∀(_:k < l.length),Hid True:=fun _=>trivial
   clear c0 ev;have hcl:_:=fD.cell (p:=⟨g,k,none⟩) hgw;have hce:=HR.cellAt k (by omega);have hck:w.cell? ⟨g,k,none⟩=some (.string l[k].k):=by rw [hce];simp[hlt]
   rw [hck] at hcl;clear hce hck;have TS:=hide (Jg l ⟨ByteArray.empty,0,0,0⟩ k hlt);have hkk:=ah O6 l[k] (List.getElem_mem hlt);have hgk:=ah HG l[k] (List.getElem_mem hlt);have abk:=HH.below fD;generalize l[k]=pu at *;have FI:=hide (Eo mp mb n _ G pu.k wr hkk abk.blk abk.map);rw [hgk] at FI;have ku:=hide (fun w1=>zK pu w1 hkk);clear hkk hgk abk;obtain⟨pk,pm,pf,ps⟩:=pu;dsimp only at hcl;have hln:(l.take k++List.replicate (l.length - k) (⟨ByteArray.empty,0,0,0⟩:Pu)).length=l.length:=by simp;omega
   go_wp2_with fail;refine FI.mono ?_;rintro e w4 ⟨rfl,hb4⟩;have nK:=hide (Ma HB hb4);have yS:=hide (fD.trans (hb4.mono fD.size));clear hb4 FI;go_wp2_with fail;refine(ku _).mono ?_;rintro e w5 ⟨rfl,hb5⟩;have jJ:=hide (Ma nK hb5);have jX:=hide (yS.trans (hb5.mono yS.size));clear hb5;obtain⟨s0,s1,s2,s3⟩:=qU.four jJ k (by omega);have f0:=GR.Blk.free jJ (k*4);have f1:=GR.Blk.free jJ (k*4+1);have f2:=GR.Blk.free jJ (k*4+2);have f3:=GR.Blk.free jJ (k*4+3);go_wp2_with fail;go_roundw
   case rel=>
    have h:=GR.Blk.set jJ aZ k (by omega) ⟨pk,pm,pf,ps⟩;rw [ah TS] at h;exact⟨k+1,by omega,by go_num,h,GR.setW_below (o:=k*4) (Nat.le_refl w.heap.size) (eG ⟨pk,pm,pf,ps⟩) jX⟩
   case measure=>simp[intOf];omega
  ·open afY in exact DZ
end Go.Proofs.YtacgbldlonoaaaaGreatDoor
namespace Go.Proofs.YtacgbldlonoaaaaGreatDoor
set_option maxHeartbeats 2000000
set_option maxRecDepth 100000
open Go.RowKit
theorem BF {w:World} {E:Nat→Addr} (h:gW w E):Calls Tryz.prog 226 #[.nilIface] w fun e w'=>e= .returned (.bool false)∧w=w':=by
 have v0:=h.var 0 (by omega);have v1:=h.var 1 (by omega);have v2:=h.var 2 (by omega);have v3:=h.var 3 (by omega);have v4:=h.var 4 (by omega);have HE:=hide h;clear h;go_enter Tryz.func226,Tryz.ntmps226
 go_wp2_with (go_at_call 250;refine(abH _ _).mono ?_;rintro e w1 ⟨rfl,rfl⟩)
 go_ret;exact⟨rfl,rfl⟩
theorem Ey {w:World} {E:Nat→Addr} (h:gW w E) (i:Nat) (hi:i < 5):Calls Tryz.prog 226 #[qx (E i)] w fun e w'=>e= .returned (.bool true)∧w=w':=by
 have v0:=h.var 0 (by omega);have v1:=h.var 1 (by omega);have v2:=h.var 2 (by omega);have v3:=h.var 3 (by omega);have v4:=h.var 4 (by omega);have HE:=hide h;clear h;match i,hi with
 |0,_|1,_|2,_|3,_|4,_=>
  go_enter Tryz.func226,Tryz.ntmps226
  go_wp2_with (go_at_call 250;first|(refine(aac HE _ _ true (by omega) (by omega) (by decide)).mono ?_;rintro e w1 ⟨rfl,rfl⟩)|(refine(aac HE _ _ false (by omega) (by omega) (by decide)).mono ?_;rintro e w1 ⟨rfl,rfl⟩))
  go_ret
  exact⟨rfl,rfl⟩
end Go.Proofs.YtacgbldlonoaaaaGreatDoor
namespace Go.Proofs.YtacgbldlonoaaaaGreatDoor
set_option maxHeartbeats 4000000
set_option maxRecDepth 100000
open Go.RowKit Go.Maps
open Mth
theorem Oc (a:Option Addr) (cap:Nat) (l:List Pu) (key:ByteArray) (dm df ds n:Int) (E:Nat→Addr) (w:World) (hl:l.length≤1048576) (hks:∀p∈l,p.k.size≤1048576) (hkey:key.size≤1048576)
 (hd1:dm= -1∨dm=0∨dm=1) (hd2:df= -1∨df=0∨df=1) (hd3:ds= -1∨ds=0∨ds=1) (ha:aH w a l) (he:gW w E):
 Calls Tryz.prog 225 #[.slice a l.length cap,.string key,.int .i64 n,shv dm df ds] w fun e w'=>Below w.heap.size w w'∧
  (((bV l key dm df ds n).2=false∧∃i,i < 5∧e= .returned (.tuple #[.slice none 0 0,qx (E i)]))∨
   ((bV l key dm df ds n).2=true∧∃g,w.heap.size≤g∧e= .returned (.tuple #[.slice (some ⟨g,0,none⟩) (bV l key dm df ds n).1.length (bV l key dm df ds n).1.length,.nilIface])∧qU w' g (bV l key dm df ds n).1)):=by
 have hb0:=bZ w (.cells #[.int .i64 dm,.int .i64 df,.int .i64 ds] 220);cases hok:ig l
 ·have jY:=hide (Ep a cap l E _ (by omega) (GR.At.below ha hb0) (he.below hb0) hok);have HAD:=hide (CV (key:=key) (dm:=dm) (df:=df) (ds:=ds) (n:=n) hok);clear ha he hks hok hb0 hd1 hd2 hd3;go_enter Tryz.func225,Tryz.ntmps225
  go_wp2_with fail;refine jY.mono ?_;rintro e w1 ⟨rfl,hb1⟩;have HB1:=hide (Fo.one_block hb1).2.2;clear hb1;go_wp2_with fail;go_ret2
  exact⟨HB1,.inl ⟨by rw [ah HAD],_,by omega,rfl⟩⟩
 have TV:=hide (Bl a cap l _ (GR.At.below ha hb0) hks hok);have HE:=hide he;cases hkk:keyOk key.data.toList
 ·have HK:=hide (fun w1=>vB key false w1 hkk)
  have HAD:Hid ((bV l key dm df ds n).2=false):=by
   by_cases hn:1≤n∧n≤1000000000
   ·rw [D6 hok hn,OL hkk];rfl
   ·rw [D7 hn];exact hide rfl
  clear ha he hks hok hb0 hd1 hd2 hd3 hkk;go_enter Tryz.func225,Tryz.ntmps225
  go_wp2_with fail;refine TV.mono ?_;rintro e w1 ⟨mp,mb,v,rfl,wX,hb1⟩;have HB1:=hide (Fo.one_block hb1).2.2;have ve:=(HE.below HB1).var 0 (by omega);clear hb1 wX TV;go_wp2_with (go_at_call 131;refine(HK _).mono ?_;rintro e w2 ⟨rfl,rfl⟩)
  go_quiet (fail);go_wp2_with fail;go_ret2
  exact⟨HB1.trans ⟨rfl,rfl,rfl,Nat.le_refl _,fun _ _=>rfl⟩,.inl ⟨HAD,_,by omega,rfl⟩⟩
 have HK:=hide (fun w1=>vB key true w1 hkk);by_cases hn:1≤n∧n≤1000000000
 case' neg=>
  have HAD:=hide (D7 (l:=l) (key:=key) (dm:=dm) (df:=df) (ds:=ds) hn)
  have AP:=hide (fun w1=>aP n false w1 (decide_eq_false hn))
  clear ha he hks hok hb0 hd1 hd2 hd3 hkk
  go_enter Tryz.func225,Tryz.ntmps225
  go_wp2_with fail
  refine TV.mono ?_
  rintro e w1 ⟨mp,mb,v,rfl,wX,hb1⟩
  have HB1:=hide (Fo.one_block hb1).2.2
  have ve:=(HE.below HB1).var 1 (by omega)
  clear hb1 wX TV
  go_wp2_with (first|(go_at_call 131;refine(HK _).mono ?_;rintro e w2 ⟨rfl,rfl⟩)|(go_at_call 54;refine(AP _).mono ?_;rintro e w2 ⟨rfl,rfl⟩))
  go_quiet (fail)
  go_wp2_with fail
  go_ret2
  exact⟨HB1.trans ⟨rfl,rfl,rfl,Nat.le_refl _,fun _ _=>rfl⟩,.inl ⟨by rw [ah HAD],_,by omega,rfl⟩⟩
 have AP:=hide (fun w1=>aP n true w1 (decide_eq_true hn));have hpo:=uj (l:=l) (key:=key) hok hkk;have u1:=oF hd1 hn;have u2:=oF hd2 hn;have u3:=oF hd3 hn;obtain⟨_,hpw,aqy⟩:=(iU l).1 hok;have HAI:=hide (D6 (key:=key) (dm:=dm) (df:=df) (ds:=ds) hok hn);have O6:=hide hks;cases hsp:fH (dR (aF l key) dm df ds n)
 ·have Uu:=hide (fun B mp mb n0 v w1 (h:PM w1 B mp mb n0 v (l.map (·.k)) (aF l)) (he1:gW w1 E)=>Er B mp mb n0 v l key dm df ds n E w1 hkey hpo u1 u2 u3 h he1 hsp)
  have HAD:Hid ((bV l key dm df ds n).2=false):=by
   rw [ah HAI,hsp];rfl
  clear ha he hks hok hb0 hd1 hd2 hd3 hkk hpo u1 u2 u3 hpw hsp HAI;open agp in exact amr
 ·have Uu:=hide (fun B mp mb n0 v w1 (hB:B≤w1.heap.size) (hn0:n0 < maxLen) (h:PM w1 B mp mb n0 v (l.map (·.k)) (aF l)) (he1:gW w1 E)=>Hg B mp mb n0 v l key dm df ds n E w1 hB hkey hn0 aqy hpw hpo u1 u2 u3 h he1 hsp);have hkp:(dR (aF l key) dm df ds n).k=key:=mh l key
  have PG:Hid (found l key=false→l.length=20→(bV l key dm df ds n).2=false):=by
   intro hf h20;have hlen:=qW (l:=l) (p:=dR (aF l key) dm df ds n) (by rw [hkp];exact hf);rw [ah HAI,hsp,decide_eq_false (by omega)];rfl
  have Qa:Hid ((found l key=true∨l.length < 20)→bV l key dm df ds n=(gV l (dR (aF l key) dm df ds n),true)∧(gV l (dR (aF l key) dm df ds n)).length≤20):=by
   intro hf
   have hlen:(gV l (dR (aF l key) dm df ds n)).length≤20:=by
    cases hff:found l key
    ·have:=qW (l:=l) (p:=dR (aF l key) dm df ds n) (by rw [hkp];exact hff);rcases hf with hf|hf
     ·rw [hff] at hf;cases hf
     ·omega
    ·have:=oh (l:=l) (p:=dR (aF l key) dm df ds n) (by rw [hkp];exact hff);omega
   rw [ah HAI,hsp,decide_eq_true hlen];exact⟨rfl,hlen⟩
  have FW:Hid (∀q∈gV l (dR (aF l key) dm df ds n),q.k.size≤1048576):=by
   intro q hq;rcases put_mem hq with rfl|hq
   ·rw [hkp];exact hkey
   ·exact O6 q hq
  have HPA:=hide (abN hpw (dR (aF l key) dm df ds n));clear ha he hks hok hb0 hd1 hd2 hd3 hkk hpo u1 u2 u3 hpw hsp HAI hkp;generalize gV l (dR (aF l key) dm df ds n)=PL at *;generalize upd (aF l) (dR (aF l key) dm df ds n)=G2 at *;open agn in exact amr
end Go.Proofs.YtacgbldlonoaaaaGreatDoor
namespace Go.Proofs.YtacgbldlonoaaaaGreatDoor
set_option maxHeartbeats 2000000
set_option maxRecDepth 100000
open Go.RowKit Go.Maps
open Mth
theorem Mth.addP_no {l:List Pu} {key:ByteArray} {dm df ds n:Int} (h:(bV l key dm df ds n).2=false):(bV l key dm df ds n).1=l:=by
 exact ZO
def iP (w:World) (r:List Pu×Bool) (e:Ending) (w':World):Prop:=∃a c g,w.heap.size≤g∧e= .returned (.tuple #[.slice a r.1.length c,.bool r.2])∧rU w' a g r.1∧Below w.heap.size w w'
theorem vC (a:Option Addr) (cap:Nat) (l:List Pu) (key:ByteArray) (dm df ds n:Int) (E:Nat→Addr) (w:World) (hl:l.length≤1048576) (hks:∀p∈l,p.k.size≤1048576) (hkey:key.size≤1048576)
 (hd1:dm= -1∨dm=0∨dm=1) (hd2:df= -1∨df=0∨df=1) (hd3:ds= -1∨ds=0∨ds=1) (ha:aH w a l) (he:gW w E):
 Calls Tryz.prog 186 #[.slice a l.length cap,.string key,.int .i64 n,shv dm df ds] w (iP w (bV l key dm df ds n)):=by
 have hb0:=bZ w (.cells #[.int .i64 dm,.int .i64 df,.int .i64 ds] 220);have Uu:=hide (Oc a cap l key dm df ds n E _ hl hks hkey hd1 hd2 hd3 (GR.At.below ha hb0) (he.below hb0));have HE:=hide he;have Fw:=hide (fun w1 (hb:Below w.heap.size w w1)=>Hf a cap l w1 hl hks (GR.At.below ha hb));have jY:=hide (addP_no (l:=l) (key:=key) (dm:=dm) (df:=df) (ds:=ds) (n:=n));clear ha he hks hb0 hd1 hd2 hd3;generalize bV l key dm df ds n=r at *;obtain⟨L,bo⟩:=r;dsimp only at Uu jY;unfold iP;go_enter Tryz.func186,Tryz.ntmps186
 go_wp2_with fail;refine Uu.mono ?_;rintro e w1 ⟨hb1,hcase⟩;have HB1:=hide (Fo.one_block hb1).2.2;have HS:=hide hb1.size;clear hb1 Uu;rcases hcase with⟨hno,i,hi,rfl⟩|⟨hyes,g,hg,rfl,hblk⟩
 ·have hL:=ah jY hno;subst hno hL;have HIR:=hide (Ey (HE.below HB1) i hi);have HCX:=hide (Fw _ HB1);clear Fw jY;go_wp2_with fail;refine HIR.mono ?_;rintro e w2 ⟨rfl,rfl⟩;go_wp2_with fail;refine HCX.mono ?_;rintro e w3 ⟨a3,c3,g3,hg3,rfl,hblk3,hb3⟩;have HK3:=hide hblk3;have HB3:=hide (HB1.trans (hb3.mono HB1.size));clear hblk3 hb3;go_wp2_with fail;go_ret2
  exact⟨_,_,g3,Nat.le_trans HB1.size hg3,rfl,HK3,HB3⟩
 ·subst hyes;have HIR:=hide (BF (HE.below HB1));have HK:=hide hblk;have hge:w.heap.size≤g:=by have:=ah HS;simp at hg;omega
  clear Fw jY hblk;go_wp2_with fail;refine HIR.mono ?_;rintro e w2 ⟨rfl,rfl⟩;go_wp2_with fail;go_ret2
  exact⟨_,_,g,hge,rfl,rU.of_blk HK,HB1⟩
theorem R8 (a:Option Addr) (cap:Nat) (l:List Pu) (key:ByteArray) (n:Int) (E:Nat→Addr) (w:World) (hl:l.length≤1048576) (hks:∀p∈l,p.k.size≤1048576) (hkey:key.size≤1048576) (ha:aH w a l) (he:gW w E):
 Calls Tryz.prog 163 #[.slice a l.length cap,.string key,.int .i64 n] w (iP w (bV l key (1) (1) (0) n)):=by
 have H:=hide (vC a cap l key (1) (1) (0) n E w hl hks hkey (by omega) (by omega) (by omega) ha he);clear ha he hks;generalize bV l key (1) (1) (0) n=r at *;unfold iP at *;go_enter Tryz.func163,Tryz.ntmps163
 exact Q0
theorem R6 (a:Option Addr) (cap:Nat) (l:List Pu) (key:ByteArray) (n:Int) (E:Nat→Addr) (w:World) (hl:l.length≤1048576) (hks:∀p∈l,p.k.size≤1048576) (hkey:key.size≤1048576) (ha:aH w a l) (he:gW w E):
 Calls Tryz.prog 232 #[.slice a l.length cap,.string key,.int .i64 n] w (iP w (bV l key (0) (1) (0) n)):=by
 have H:=hide (vC a cap l key (0) (1) (0) n E w hl hks hkey (by omega) (by omega) (by omega) ha he);clear ha he hks;generalize bV l key (0) (1) (0) n=r at *;unfold iP at *;go_enter Tryz.func232,Tryz.ntmps232
 exact Q0
theorem Sc (a:Option Addr) (cap:Nat) (l:List Pu) (key:ByteArray) (n:Int) (E:Nat→Addr) (w:World) (hl:l.length≤1048576) (hks:∀p∈l,p.k.size≤1048576) (hkey:key.size≤1048576) (ha:aH w a l) (he:gW w E):
 Calls Tryz.prog 191 #[.slice a l.length cap,.string key,.int .i64 n] w (iP w (bV l key (0) (-1) (0) n)):=by
 have H:=hide (vC a cap l key (0) (-1) (0) n E w hl hks hkey (by omega) (by omega) (by omega) ha he);clear ha he hks;generalize bV l key (0) (-1) (0) n=r at *;unfold iP at *;go_enter Tryz.func191,Tryz.ntmps191
 exact Q0
theorem Oh (a:Option Addr) (cap:Nat) (l:List Pu) (key:ByteArray) (n:Int) (E:Nat→Addr) (w:World) (hl:l.length≤1048576) (hks:∀p∈l,p.k.size≤1048576) (hkey:key.size≤1048576) (ha:aH w a l) (he:gW w E):
 Calls Tryz.prog 165 #[.slice a l.length cap,.string key,.int .i64 n] w (iP w (bV l key (0) (-1) (1) n)):=by
 have H:=hide (vC a cap l key (0) (-1) (1) n E w hl hks hkey (by omega) (by omega) (by omega) ha he);clear ha he hks;generalize bV l key (0) (-1) (1) n=r at *;unfold iP at *;go_enter Tryz.func165,Tryz.ntmps165
 exact Q0
theorem Hr (a:Option Addr) (cap:Nat) (l:List Pu) (key:ByteArray) (n:Int) (E:Nat→Addr) (w:World) (hl:l.length≤1048576) (hks:∀p∈l,p.k.size≤1048576) (hkey:key.size≤1048576) (ha:aH w a l) (he:gW w E):
 Calls Tryz.prog 167 #[.slice a l.length cap,.string key,.int .i64 n] w (iP w (bV l key (0) (1) (-1) n)):=by
 have H:=hide (vC a cap l key (0) (1) (-1) n E w hl hks hkey (by omega) (by omega) (by omega) ha he);clear ha he hks;generalize bV l key (0) (1) (-1) n=r at *;unfold iP at *;go_enter Tryz.func167,Tryz.ntmps167
 exact Q0
end Go.Proofs.YtacgbldlonoaaaaGreatDoor
namespace Go.Proofs.YtacgbldlonoaaaaGreatDoor
set_option maxHeartbeats 4000000
set_option maxRecDepth 100000
open Go.RowKit
open Mth
theorem xE (wb:Nat) (a:Option Addr) (len cp:Nat) (w:World):Calls Tryz.prog 162 #[.pointer (some ⟨wb,0,none⟩),.slice a len cp,.bool false] w fun e w'=>e= .returned (.bool false)∧w=w':=by
 exact ZK
theorem uq (wb:Nat) (n:Nd) (A:bE) (v:Value) (a:Option Addr) (len cp:Nat) (w:World) (h:w.heap[wb]?=some (.cells (FE n A v) 74 (0,0))):Calls Tryz.prog 162 #[.pointer (some ⟨wb,0,none⟩),.slice a len cp,.bool true] w fun e w'=>e= .returned (.bool true)∧w.setCell ⟨wb,4,none⟩ (.slice a len cp)=w':=by
 obtain⟨c0,c1,c2,c3,c4,c5,c6,c7,c8,c9⟩:=gY h;have f4:=ay h 4;clear h;exact ZK
theorem Mx {w0 w x:World} {wb:Nat} {n:Nd} {A:bE} {G:aU} {c:Nat→Nat} {v:Value} {L:List Mg} (h:WK w0 w wb n A G c v L) {r:List Pu×Bool} {a:Option Addr} {cp g:Nat} (hb:Below w.heap.size w x) (hg:w.heap.size≤g) (hp:rU x a g r.1):
 Calls Tryz.prog 162 #[.pointer (some ⟨wb,0,none⟩),.slice a r.1.length cp,.bool r.2] x fun e w'=>e= .returned (.bool r.2)∧∃A' G' c',WK w0 w' wb (if r.2=true then setPu n r.1 else n) A' G' c' v L:=by
 obtain⟨l,b⟩:=r;cases b with
 |false=>
  refine(xE wb a l.length cp x).mono ?_
  rintro e w' ⟨rfl,rfl⟩
  exact⟨rfl,A,G,c,h.step hb⟩
 |true=>
  refine(uq wb n A v a l.length cp x (h.step hb).blk).mono ?_
  rintro e w' ⟨rfl,rfl⟩
  exact⟨rfl,_,_,_,h.setPu hb hp (fun y hy=>by rw [(gD hy).1];exact hg)⟩
def qg (n:Nd) (o:jE):Nd×Int:=if n.par= -1∧(bV n.pu o.k 1 1 0 o.n).2=true then(setPu n (bV n.pu o.k 1 1 0 o.n).1,0) else(n,1)
theorem OW (w0 w:World) (wb:Nat) (n:Nd) (A:bE) (G:aU) (c:Nat→Nat) (v:Value) (L:List Mg) (o:jE) (hpar:¬n.par= -1) (h:WK w0 w wb n A G c v L):
 Calls Tryz.prog 107 #[.pointer (some ⟨wb,0,none⟩),jH o] w fun e w'=>e= .returned (.int .i64 (qg n o).2)∧∃A' G' c',WK w0 w' wb (qg n o).1 A' G' c' v L:=by
 have hR:qg n o=(n,1):=if_neg (fun hx=>hpar hx.1);rw [hR];have hq:(n.par != -1)=true:=by simpa using hpar
 have hq2:(n.par == -1)=false:=by simpa using hpar
 have HW:=hide h;obtain⟨K,no,k,nn,⟨mK,mF,mT,mI,mL,mk,mN⟩⟩:=o;open apr in exact DX
theorem KO (w0 w:World) (wb:Nat) (n:Nd) (A:bE) (G:aU) (c:Nat→Nat) (v:Value) (L:List Mg) (o:jE) (E:Nat→Addr) (hz:eH n 1048576) (hk:o.k.size≤1048576) (hpar:n.par= -1) (h:WK w0 w wb n A G c v L) (he:gW w0 E):
 Calls Tryz.prog 107 #[.pointer (some ⟨wb,0,none⟩),jH o] w fun e w'=>e= .returned (.int .i64 (qg n o).2)∧∃A' G' c',WK w0 w' wb (qg n o).1 A' G' c' v L:=by
 have hR:qg n o=((if (bV n.pu o.k 1 1 0 o.n).2=true then setPu n (bV n.pu o.k 1 1 0 o.n).1 else n),(if (bV n.pu o.k 1 1 0 o.n).2=true then 0 else 1)):=by
  unfold qg;cases hb:(bV n.pu o.k 1 1 0 o.n).2<;>simp[hpar]
 rw [hR];have hq:(n.par != -1)=false:=by simpa using hpar
 have hq2:(n.par == -1)=true:=by simpa using hpar
 have HW:=hide h;have HMI:=hide (fun w1 (hb:Below w.heap.size w w1)=>R8 A.p A.cp n.pu o.k o.n E w1 hz.p hz.pk hk (GR.At.below h.no.p.at hb) (he.below (h.keep.trans (hb.mono h.keep.size))));unfold iP at HMI;obtain⟨K,no,k,nn,⟨mK,mF,mT,mI,mL,mk,mN⟩⟩:=o;dsimp only at HMI ⊢;generalize bV n.pu k 1 1 0 nn=r at *;open apq in exact DX
theorem ab2 (w0 w:World) (wb:Nat) (n:Nd) (A:bE) (G:aU) (c:Nat→Nat) (v:Value) (L:List Mg) (o:jE) (E:Nat→Addr) (hz:eH n 1048576) (hk:o.k.size≤1048576) (h:WK w0 w wb n A G c v L) (he:gW w0 E):
 Calls Tryz.prog 107 #[.pointer (some ⟨wb,0,none⟩),jH o] w fun e w'=>e= .returned (.int .i64 (qg n o).2)∧∃A' G' c',WK w0 w' wb (qg n o).1 A' G' c' v L:=by
 by_cases hpar:n.par= -1
 ·exact KO w0 w wb n A G c v L o E hz hk hpar h he
 ·exact OW w0 w wb n A G c v L o hpar h
end Go.Proofs.YtacgbldlonoaaaaGreatDoor
namespace Go.Proofs.YtacgbldlonoaaaaGreatDoor
open Go.RowKit
open Mth
theorem fu {P:Program} (w:World) (base:Nat) (t ty e:TypeId) (i:TypeInfo) (z:Value) (size bytes:Nat) (ht:P.underlying t=some (.slice e)) (hi:P.info? e=some i) (hz:i.zero=some z)
 (hsize:i.size=size) (hby:i.bytes=bytes) (hzs:z.cells.size=size) (hsz:0 < size)
 (v:Value) (n:Nat) (xs:List Value) (hown:w.ownsRow base e size v n xs)
 (a:Addr) (m c:Nat) (news:List Value) (hl:news.length=m*size) (hnews:∀j u,news[j]?=some u→w.cell? (a.add j)=some u) (h1:∀u∈news,u.oneCell'=true)
 (h63:n+m≤maxLen) (hbytes:(n+m)*bytes≤140737488355328) (hbase:base≤w.heap.size):
 ∃v' w',(Builtin.append_ #[t,t] ty #[v,.slice (some a) m c]).run P w= .ok v' w'∧w'.ownsRow base e size v' (n+m) (xs++news)∧w.grownBy w' v.ownBlock∧
  ∀x,v'.ownBlock=some x→v.ownBlock=some x∨w.heap.size≤x:=by
 obtain⟨v',w',hr,ho,hg,_⟩:=run_append_own w base t ty e i z size bytes ht hi hz hsize hby hzs hsz v n xs hown a m c news hl hnews h1 h63 hbytes hbase;refine⟨v',w',hr,ho,hg,fun x hx=>?_⟩;have hsmall:n+m≤9223372036854775807:=by simp only[maxLen] at h63;omega
 rcases hown.2 with⟨rfl,rfl⟩|⟨g,cap,cur,rfl,hbg,hgg,hnc,hcm,hcs,htake⟩
 ·have hxs:xs=[]:=List.eq_nil_of_length_eq_zero (by simpa using hown.1);subst hxs;obtain⟨v2,w2,hr2,ho2,_,_⟩:=run_append_own w w.heap.size t ty e i z size bytes ht hi hz hsize hby hzs hsz (.slice none 0 0) 0 [] (World.ownsRow_nil w _ e size) a m c news hl hnews h1 h63 hbytes (Nat.le_refl _);have he:=hr.symm.trans hr2;simp only[Result.ok.injEq] at he;obtain⟨rfl,rfl⟩:=he;exact .inr (ho2.lt x hx).1
 ·subst hsize;subst hby;by_cases hroom:n+m≤cap
  ·have hfit:n*i.size+news.length≤cur.size:=by rw [hl,hcs,←Nat.add_mul];exact Nat.mul_le_mul_right _ hroom
   have hr2:=run_append_room (P:=P) w t ty e i ht hi g n cap cur hgg a m c news hl hnews h1 hroom hfit;have he:=hr.symm.trans hr2;simp only[Result.ok.injEq] at he;obtain⟨rfl,_⟩:=he;exact .inl hx
  ·have holds:∀j u,xs[j]?=some u→w.cell? ((⟨g,0,none⟩:Addr).add j)=some u:=hown.cells (g:=g) rfl;have hr2:=run_append_grow (P:=P) w t ty e i z ht hi hz ⟨g,0,none⟩ n cap xs hown.1 holds a m c news hl hnews (by omega) (by omega) (growslice_fits (by omega) hbytes);have he:=hr.symm.trans hr2;simp only[Result.ok.injEq] at he;obtain⟨rfl,_⟩:=he;have:w.heap.size=x:=by simpa [Value.ownBlock] using hx
   exact .inr (by omega)
theorem ql {P:Program} (w:World) {o:Oper} {a:Act} {K:Act→World→Prop} {Q:Exit→Act→World→Prop} (s x:Operand) (t:TypeId)
 (ho:o.op= .call {callee:= .builtin .append,args:=#[s,x],argTypes:=#[t,t]})
 (base:Nat) (e:TypeId) (i:TypeInfo) (z:Value) (size bytes:Nat) (ht:P.underlying t=some (.slice e)) (hi:P.info? e=some i) (hz:i.zero=some z)
 (hsize:i.size=size) (hby:i.bytes=bytes) (hzs:z.cells.size=size) (hsz:0 < size)
 (v:Value) (n:Nat) (xs:List Value) (hs:a.eval s=v) (hown:w.ownsRow base e size v n xs)
 (ad:Addr) (m c:Nat) (news:List Value) (hx:a.eval x= .slice (some ad) m c) (hl:news.length=m*size) (hnews:∀j u,news[j]?=some u→w.cell? (ad.add j)=some u) (h1:∀u∈news,u.oneCell'=true)
 (h63:n+m≤maxLen) (hbytes:(n+m)*bytes≤140737488355328) (hbase:base≤w.heap.size)
 (h:∀v' w',w'.ownsRow base e size v' (n+m) (xs++news)→w.grownBy w' v.ownBlock→(∀x,v'.ownBlock=some x→v.ownBlock=some x∨w.heap.size≤x)→K (a.put o.dst v') w'):o.wp P a w K Q:=by
 obtain⟨v',w',hr,h2,h3,h4⟩:=fu w base t o.type e i z size bytes ht hi hz hsize hby hzs hsz v n xs hown ad m c news hl hnews h1 h63 hbytes hbase;exact Lib.wp_append_run w s x t t ho _ _ hs hx v' w' hr (h v' w' h2 h3 h4)
end Go.Proofs.YtacgbldlonoaaaaGreatDoor

namespace Go.Proofs.YtacgbldlonoaaaaGreatDoor
set_option maxHeartbeats 4000000
set_option maxRecDepth 100000
open Go.RowKit
open Mth
theorem WK.app {w0 w w6:World} {wb:Nat} {n:Nd} {A:bE} {G:aU} {c:Nat→Nat} {v v':Value} {L:List Mg} (h:WK w0 w wb n A G c v L) (m:Mg)
 (hown:w6.ownsRow w0.heap.size 32 7 v' (L.length+1) (GR.flat gX L++gX m)) (hg:w.grownBy w6 v.ownBlock) (hv:∀x,v'.ownBlock=some x→v.ownBlock=some x∨w.heap.size≤x):
 w6.heap[wb]?=some (.cells (FE n A v) 74 (0,0))∧WK w0 (w6.setCell ⟨wb,9,none⟩ v') wb n A G (newC w.heap.size 7 c) v' (L++[m]):=by
 have h1:=h.recol (c':=newC w.heap.size 7 c) (fun x hx=>dH hx);have hk1:KC (newC w.heap.size 7 c) 7 w w6:=KC.grown hg h1.cm;have hblk:=hk1.obj h1.blk (by rw [h1.cw];omega);have hno:=h1.no.kc hk1 (by omega);have hkeep:=hk1.below h1.keep h1.no.lo (by omega) h1.keep.size;have hk2:KC (newC w.heap.size 7 c) 8 w6 (w6.setCell ⟨wb,9,none⟩ v'):=KC.set h1.cw
 have hcm:∀x,v'.ownBlock=some x→newC w.heap.size 7 c x=7:=fun x hx=>by
  rcases hv x hx with hx'|hx'
  ·exact h1.cm x hx'
  ·exact aT hx'
 refine⟨hblk,hk2.below hkeep h1.no.lo (by omega) hkeep.size,bg hblk 9 v',hno.kc hk2 (by omega),?_,hcm,h1.cw⟩;rw [List.length_append,fV];exact hk2.own hown hcm (by omega)
theorem ME (w0 w:World) (wb:Nat) (n:Nd) (A:bE) (G:aU) (c:Nat→Nat) (v:Value) (L:List Mg) (m:Mg) (hk:m.k.size≤1048600) (hL:L.length≤2097200) (h:WK w0 w wb n A G c v L):
 Calls Tryz.prog 125 #[.pointer (some ⟨wb,0,none⟩),nX m] w fun e w'=>e= .returned (.tuple #[])∧∃c' v',WK w0 w' wb n A G c' v' (L++[m]):=by
 obtain⟨i0,hi,hz0,hz1,hz2⟩:=info_parts Et;have HS:=hide h;clear h;obtain⟨va,vc,hv,_⟩:=GR.own_at (enc:=gX) (sz:=7) (l:=L) iR HS.m;subst hv;obtain⟨mK,mF,mT,mI,mL,mk,mN⟩:=m;dsimp only at hk;have HX0:=hide (heap_alloc_new w (.cells #[.int .i64 mK,.int .i64 mF,.int .i64 mT,.int .i64 mI,.int .i64 mL,.string mk,.int .i64 mN] 32));go_enter Tryz.func125,Tryz.ntmps125
 go_wp2_with fail;refine(clone mk _ (by omega)).mono ?_;rintro e w1 ⟨rfl,hb1⟩;have yA:=hide (aj HX0 hb1);have HB1:=hide ((au w _).trans (hb1.mono (by simp)));clear hb1 HX0;open aiK in exact XD
end Go.Proofs.YtacgbldlonoaaaaGreatDoor
