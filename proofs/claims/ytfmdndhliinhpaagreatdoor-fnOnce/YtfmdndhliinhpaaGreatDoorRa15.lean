/- Parts. -/
import Derived.Test.YtfmdndhliinhpaaGreatDoorRa14
namespace Go.Proofs.YtfmdndhliinhpaaGreatDoor
set_option maxHeartbeats 2000000
set_option maxRecDepth 100000
open Go.RowKit Go.Maps
open Mth
def JG (l:List Pu) (key:ByteArray):List ByteArray:=(l.map (·.k)).take (place l key)++key::(l.map (·.k)).drop (place l key)
theorem Vm (l:List Pu) (key:ByteArray):uh (l.map (·.k)) (place l key) key=(JG l key).map Value.string:=by
 unfold uh JG;simp
theorem zo (l:List Pu) (key:ByteArray):(JG l key).length=l.length+1:=by
 unfold JG;have:=lq l key;simp;omega
theorem Gi {l:List Pu} {p:Pu} (h:found l p.k=false):(iC l p).map (·.k)=JG l p.k:=by
 rw [uG h];unfold JG;simp
theorem ME (B mp mb n:Nat) (v:Value) (l:List Pu) (G:ByteArray→Pu) (key:ByteArray) (E:Nat→Addr) (w:World) (hp:l.Pairwise F8) (hl:l.length≤20) (hB:B≤w.heap.size) (h:PM w B mp mb n v (l.map (·.k)) G) (he:iw w E):
 Calls Tryz.prog 160 #[.pointer (some ⟨mp,0,none⟩),.string key] w fun e w'=>Below B w w'∧(∀k,k < w.heap.size→k≠mp→v.ownBlock≠some k→w'.heap[k]?=w.heap[k]?)∧
  ((found l key=true∧e= .returned .nilIface∧PM w' B mp mb n v (l.map (·.k)) G)∨
   (found l key=false∧l.length=20∧e= .returned (qw (E 4)))∨
   (found l key=false∧l.length < 20∧e= .returned .nilIface∧∃v',PM w' B mp mb n v' (JG l key) G)):=by
 have hrow:=h.row;rw [List.length_map] at hrow
 obtain⟨a,cap,rfl⟩:∃a cap,v= .slice a l.length cap:=by
  exact abZ
 have HBS:=hide (ars B _ l key w hp hl hrow);have hmp:=Fo.lt_of_blk h.blk;have hmb:=h.map.lt;obtain⟨⟨m0,m1⟩,f0,f1⟩:=lF h.blk;have ve:=he.var 4 (by omega);have HH:=hide h;have HR:=hide hrow;clear h hrow he;cases hf:found l key
 ·by_cases h20:l.length=20
  ·have arN:((l.length:Int) == 20)=true:=by simp;omega
   have H20:=hide h20;clear h20;open anb in exact SY
  ·have arN:((l.length:Int) == 20)=false:=by simp;omega
   open ana in exact SY
 ·open am9 in exact SY
end Go.Proofs.YtfmdndhliinhpaaGreatDoor
namespace Go.Proofs.YtfmdndhliinhpaaGreatDoor
set_option maxHeartbeats 4000000
set_option maxRecDepth 100000
open Go.RowKit Go.Maps
open Mth
theorem Df (p:Pu) (dm df ds n:Int) (E:Nat→Addr) (w:World) (hp:fT p=true) (h1: -1000000000≤dm*n∧dm*n≤1000000000) (h2: -1000000000≤df*n∧df*n≤1000000000) (h3: -1000000000≤ds*n∧ds*n≤1000000000)
 (hok:fT (dY p dm df ds n)=false) (he:iw w E):
 Calls Tryz.prog 159 #[wY p,shv dm df ds,.int .i64 n] w fun e w'=>∃i,i < 5∧e= .returned (.tuple #[wY ⟨⟨#[]⟩,0,0,0⟩,qw (E i)])∧Below w.heap.size w w':=by
 by_cases hf:p.f+df*n < 0∨0≤p.f+df*n∧p.s+ds*n < 0
 ·exact(zT p dm df ds n E w hp h1 h2 h3 hf he).mono fun e w' ⟨h,hb⟩=>⟨_,by omega,h,hb⟩
 ·exact(yJ p dm df ds n E w hp h1 h2 h3 (by omega) (by omega) hok he).mono fun e w' ⟨h,hb⟩=>⟨_,by omega,h,hb⟩
theorem FY (B mp mb n0:Nat) (v:Value) (l:List Pu) (key:ByteArray) (dm df ds n:Int) (E:Nat→Addr) (w:World) (hkey:key.size≤1048576) (hp:fT (aG l key)=true) (h1: -1000000000≤dm*n∧dm*n≤1000000000) (h2: -1000000000≤df*n∧df*n≤1000000000) (h3: -1000000000≤ds*n∧ds*n≤1000000000)
 (h:PM w B mp mb n0 v (l.map (·.k)) (aG l)) (he:iw w E) (hok:fT (dY (aG l key) dm df ds n)=false):
 Calls Tryz.prog 145 #[.pointer (some ⟨mp,0,none⟩),.string key,.int .i64 n,shv dm df ds] w fun e w'=>∃i,i < 5∧e= .returned (qw (E i))∧Below w.heap.size w w':=by
 have H6:=hide (fun w1 (hb:Below w.heap.size w w1)=>FW mp mb n0 v (aG l) key w1 hkey (h.below hb).blk (h.below hb).map);have HSH:=hide (fun w1 (hb:Below w.heap.size w w1)=>Df (aG l key) dm df ds n E w1 hp h1 h2 h3 hok (he.below hb));clear h he hok hp h1 h2 h3;generalize aG l key=p at *;obtain⟨pk,pm,pf,ps⟩:=p;open aiB in exact ap4
theorem Jw (B mp mb n0:Nat) (v:Value) (l:List Pu) (key:ByteArray) (dm df ds n:Int) (E:Nat→Addr) (w:World) (hB:B≤w.heap.size) (hkey:key.size≤1048576) (hn0:n0 < maxLen) (hl:l.length≤20) (hpw:l.Pairwise F8) (hp:fT (aG l key)=true) (h1: -1000000000≤dm*n∧dm*n≤1000000000) (h2: -1000000000≤df*n∧df*n≤1000000000) (h3: -1000000000≤ds*n∧ds*n≤1000000000)
 (h:PM w B mp mb n0 v (l.map (·.k)) (aG l)) (he:iw w E) (hok:fT (dY (aG l key) dm df ds n)=true):
 Calls Tryz.prog 145 #[.pointer (some ⟨mp,0,none⟩),.string key,.int .i64 n,shv dm df ds] w fun e w'=>Below B w w'∧
  ((found l key=false∧l.length=20∧e= .returned (qw (E 4)))∨
   ((found l key=true∨l.length < 20)∧e= .returned .nilIface∧∃v',PM w' B mp mb (n0+1) v' ((iC l (dY (aG l key) dm df ds n)).map (·.k)) (upd (aG l) (dY (aG l key) dm df ds n)))):=by
 have hpos:fT (dY (aG l key) dm df ds n)=true:=hok
 have hff:0≤(aG l key).f+df*n∧0≤(aG l key).s+ds*n:=by
  unfold fT at hpos;simp only[Bool.and_eq_true] at hpos;have b2:0≤(aG l key).f+df*n∧(aG l key).f+df*n≤1000000000:=of_decide_eq_true hpos.1.1.2;have b3:0≤(aG l key).s+ds*n∧(aG l key).s+ds*n≤1000000000:=of_decide_eq_true hpos.1.2;exact⟨b2.1,b3.1⟩
 have H6:=hide (fun w1 (hb:Below w.heap.size w w1)=>FW mp mb n0 v (aG l) key w1 hkey (h.below hb).blk (h.below hb).map);have HSH:=hide (fun w1 (hb:Below w.heap.size w w1)=>FZ (aG l key) dm df ds n w1 hp h1 h2 h3 hff.1 hff.2 hok);have Xa:=hide (fun w1 (hb:Below w.heap.size w w1)=>ME B mp mb n0 v l (aG l) key E w1 hpw hl (Nat.le_trans hB hb.size) (h.below hb) (he.below hb));have Ra:=hide (fun w1 (hb:Below w.heap.size w w1)=>h.below hb);have hpk:(dY (aG l key) dm df ds n).k=key:=nG l key;have qg:=hide (fun hf=>(sK (l:=l) (p:=dY (aG l key) dm df ds n) hf).symm);have HKN:=hide (fun hf=>(Gi (l:=l) (p:=dY (aG l key) dm df ds n) hf).symm);rw [hpk] at qg HKN;have hkk:(aG l key).k=key:=nG l key;clear h he hok hp h1 h2 h3 hpos hff hpw;unfold dY at *;generalize iC l ⟨(aG l key).k,(aG l key).m+dm*n,(aG l key).f+df*n,(aG l key).s+ds*n⟩=PL at *;generalize hG:aG l=G at *;generalize G key=p at *;obtain⟨pk,pm,pf,ps⟩:=p;dsimp only at *;subst hkk;generalize pm+dm*n=qm at *;generalize pf+df*n=qf at *;generalize ps+ds*n=qs at *;clear hG hpk;open aiA in exact ap4
end Go.Proofs.YtfmdndhliinhpaaGreatDoor
namespace Go.Proofs.YtfmdndhliinhpaaGreatDoor
set_option maxHeartbeats 4000000
set_option maxRecDepth 100000
open Go.RowKit Go.Maps
open Mth
namespace Mth
theorem Wo {l:List Pu} (hp:l.Pairwise F8) (k:Nat) (hk:k < l.length):upd (aG (l.take k)) l[k]=aG (l.take (k+1)):=by
 funext key
 have hsub:(l.take (k+1)).Pairwise F8:=hp.sublist (List.take_sublist _ _);unfold upd;by_cases e:key=l[k].k
 ·rw [if_pos e,e];exact(oq hsub (List.mem_take_iff_getElem.2 ⟨k,by omega,rfl⟩)).symm
 ·rw [if_neg e];unfold aG;rw [List.take_succ_eq_append_getElem hk,List.find?_append]
  have:[l[k]].find? (fun p=>p.k.toList == key.toList)=none:=by
   rw [List.find?_eq_none];intro q hq;rw [List.mem_singleton] at hq;subst hq;simp only[beq_iff_eq];exact fun e'=>e (toList_inj e').symm
  rw [this];simp
end Mth
theorem Yv:(Tryz.prog.info? 9).map (fun i=>(i.zero,i.size,i.bytes))=some (some (.string ⟨#[]⟩),1,16):=by kernel_rfl
theorem FX (a:Option Addr) (cap:Nat) (l:List Pu) (E:Nat→Addr) (w:World) (hl:l.length≤1048600) (ha:aH w a l) (he:iw w E) (hno:iB l=false):
 Calls Tryz.prog 144 #[.slice a l.length cap] w fun e w'=>e= .returned (.tuple #[.pointer none,qw (E 2)])∧Below w.heap.size w w':=by
 have mg:=hide (qz a cap l w hl ha);have HE:=hide he;clear ha he;go_enter Tryz.func144,Tryz.ntmps144
 go_wp2_with fail;refine mg.mono ?_;rintro e w1 ⟨rfl,hb1⟩;rw [hno];have ve:=(HE.below hb1).var 2 (by omega);have HB:=hide hb1;clear hb1 mg;go_wp2_with fail;go_quiet (fail);go_wp2_with fail;go_ret2
 exact⟨rfl,HB.trans ⟨rfl,rfl,rfl,Nat.le_refl _,fun _ _=>rfl⟩⟩
theorem CW (a:Option Addr) (cap:Nat) (l:List Pu) (w:World) (ha:aH w a l) (hks:∀p∈l,p.k.size≤1048576) (hok:iB l=true):
 Calls Tryz.prog 144 #[.slice a l.length cap] w fun e w'=>∃mp mb v,e= .returned (.tuple #[.pointer (some ⟨mp,0,none⟩),.nilIface])∧PM w' w.heap.size mp mb l.length v (l.map (·.k)) (aG l)∧Below w.heap.size w w':=by
 obtain⟨hpu,hpw,hl⟩:=(jl l).1 hok;have Cu:=hide hpw;have mg:=hide (qz a cap l w (by omega) ha);have HA:=hide ha;obtain⟨i0,hi,hz0,hz1,hz2⟩:=info_parts Yv;have Q7:=hide hks;have hmm:= @run_makeMap Tryz.prog;clear ha hpw hpu hks;go_enter Tryz.func144,Tryz.ntmps144
 go_wp2_with fail;refine mg.mono ?_;rintro e w1 ⟨rfl,hb1⟩;rw [hok];have HB1:=hide hb1;have hw1:=hb1.size;clear hb1 mg hok;go_wp2_with fail;go_loopw [16] (fun i wr=>∃(k:Nat) (aa:Option Addr) (cc:Nat),k≤l.length∧i= .int .i64 k∧PM wr w.heap.size (w1.heap.size+1) w1.heap.size k (.slice aa k cc) ((l.take k).map (·.k)) (aG (l.take k))∧Below w.heap.size w wr) (fun i _=>l.length - (intOf i).toNat)
 case atStart=>
  refine⟨0,none,0,Nat.zero_le _,rfl,⟨?_,?_,?_,by omega,by omega⟩,(HB1.alloc (by omega) _).alloc (by simp;omega) _⟩
  ·have:=heap_alloc_new (w1.alloc (.map #[] 0)) (.cells #[.slice none 0 0,.map (some w1.heap.size)] 191);rwa [show(w1.alloc (Obj.map #[] 0)).heap.size=w1.heap.size+1 by simp] at this
  ·exact World.ownsRow_nil _ _ _ _
  ·exact(gP.made w1).kept (Below.heap_alloc _ _ _ (by simp))
 case round=>
  obtain⟨k,aa,cc,hk,rfl,yE,hbel⟩:=hrel;have HP:=hide yE;have fG:=hide hbel;have hwr:=hbel.size;clear yE hbel;by_cases hlt:k < l.length
  ·obtain⟨g,off,rfl,hgw,c0,c1,c2,c3⟩:=aH.four (GR.At.below HA fG) k hlt;have HUP:=hide (Wo Cu k hlt);have Ob:=hide (List.take_succ_eq_append_getElem hlt);have hkk:=ah Q7 l[k] (List.getElem_mem hlt);generalize l[k]=pu at *;obtain⟨pk,pm,pf,ps⟩:=pu;dsimp only at c0 c1 c2 c3 hkk;go_upto_region 7 with fail;refine Fo.wp_at (fun V hV=>?_);have hbV:Below wr.heap.size wr V:=by rw [hV];exact dA wr _
   open amX in exact aaG
  ·open ai3 in exact Fj
end Go.Proofs.YtfmdndhliinhpaaGreatDoor
namespace Go.Proofs.YtfmdndhliinhpaaGreatDoor
set_option maxHeartbeats 2000000
set_option maxRecDepth 100000
open Go.RowKit Go.Maps
open Mth
theorem Vg (B mp mb n:Nat) (v:Value) (l:List Pu) (G:ByteArray→Pu) (w:World) (hl:l.length≤20) (hG:∀p∈l,G p.k=p) (hks:∀p∈l,p.k.size≤1048576) (h:PM w B mp mb n v (l.map (·.k)) G):
 Calls Tryz.prog 146 #[.pointer (some ⟨mp,0,none⟩)] w fun e w'=>e= .returned (.slice (some ⟨w.heap.size,0,none⟩) l.length l.length)∧sJ w' w.heap.size l∧Below w.heap.size w w':=by
 have hrow:=h.row;rw [List.length_map] at hrow
 obtain⟨a,cap,rfl⟩:∃a cap,v= .slice a l.length cap:=by
  exact abZ
 have hmk:=JR l.length (by omega);have HH:=hide h;have HG:=hide hG;have Q7:=hide hks;have HR:=hide hrow;obtain⟨⟨m0,m1⟩,_⟩:=lF h.blk;have hmp:=Fo.lt_of_blk h.blk;clear h hG hks hrow;go_enter Tryz.func146,Tryz.ntmps146
 go_wp2_with fail;go_loopw [17] (fun i wr=>∃k:Nat,k≤l.length∧i= .int .i64 k∧sJ wr w.heap.size (l.take k++List.replicate (l.length - k) ⟨ByteArray.empty,0,0,0⟩)∧Below w.heap.size w wr) (fun i _=>l.length - (intOf i).toNat)
 case atStart=>exact⟨0,Nat.zero_le _,rfl,by unfold sJ GR.Blk;rw [List.take_zero,List.nil_append,Nat.sub_zero];exact heap_alloc_new w _,dA w _⟩
 case round=>
  obtain⟨k,hk,rfl,hB,hbel⟩:=hrel;have HB:=hide hB;have fG:=hide hbel;clear hB hbel hmk;by_cases hlt:k < l.length
  ·obtain⟨g,cap',ev,hgl,hgw⟩:=HR.form (by omega);have ea:a=some ⟨g,0,none⟩:=by injection ev
   subst ea;have c0:∀(_:k < l.length),Hid True:=fun _=>trivial
   clear c0 ev;have hcl:_:=fG.cell (p:=⟨g,k,none⟩) hgw;have hce:=HR.cellAt k (by omega);have hck:w.cell? ⟨g,k,none⟩=some (.string l[k].k):=by rw [hce];simp[hlt]
   rw [hck] at hcl;clear hce hck;have TS:=hide (KJ l ⟨ByteArray.empty,0,0,0⟩ k hlt);have hkk:=ah Q7 l[k] (List.getElem_mem hlt);have hgk:=ah HG l[k] (List.getElem_mem hlt);have adM:=HH.below fG;generalize l[k]=pu at *;have H6:=hide (FW mp mb n _ G pu.k wr hkk adM.blk adM.map);rw [hgk] at H6;have mg:=hide (fun w1=>BA pu w1 hkk);clear hkk hgk adM;obtain⟨pk,pm,pf,ps⟩:=pu;dsimp only at hcl;have hln:(l.take k++List.replicate (l.length - k) (⟨ByteArray.empty,0,0,0⟩:Pu)).length=l.length:=by simp;omega
   go_wp2_with fail;refine H6.mono ?_;rintro e w4 ⟨rfl,hb4⟩;have kC:=hide (OI HB hb4);have Av:=hide (fG.trans (hb4.mono fG.size));clear hb4 H6;go_wp2_with fail;refine(mg _).mono ?_;rintro e w5 ⟨rfl,hb5⟩;have jd:=hide (OI kC hb5);have kD:=hide (Av.trans (hb5.mono Av.size));clear hb5;obtain⟨s0,s1,s2,s3⟩:=sJ.four jd k (by omega);have f0:=GR.Blk.free jd (k*4);have f1:=GR.Blk.free jd (k*4+1);have f2:=GR.Blk.free jd (k*4+2);have f3:=GR.Blk.free jd (k*4+3);go_wp2_with fail;go_roundw
   case rel=>
    have h:=GR.Blk.set jd aV k (by omega) ⟨pk,pm,pf,ps⟩;rw [ah TS] at h;exact⟨k+1,by omega,by go_num,h,GR.setW_below (o:=k*4) (Nat.le_refl w.heap.size) (eG ⟨pk,pm,pf,ps⟩) kD⟩
   case measure=>simp[intOf];omega
  ·open ai4 in exact Fj
end Go.Proofs.YtfmdndhliinhpaaGreatDoor
namespace Go.Proofs.YtfmdndhliinhpaaGreatDoor
set_option maxHeartbeats 2000000
set_option maxRecDepth 100000
open Go.RowKit
theorem Dg {w:World} {E:Nat→Addr} (h:iw w E):Calls Tryz.prog 124 #[.nilIface] w fun e w'=>e= .returned (.bool false)∧w=w':=by
 have v0:=h.var 0 (by omega);have v1:=h.var 1 (by omega);have v2:=h.var 2 (by omega);have v3:=h.var 3 (by omega);have v4:=h.var 4 (by omega);have HE:=hide h;clear h;go_enter Tryz.func124,Tryz.ntmps124
 go_wp2_with (go_at_call 147;refine(aee _ _).mono ?_;rintro e w1 ⟨rfl,rfl⟩)
 go_ret;exact⟨rfl,rfl⟩
theorem F7 {w:World} {E:Nat→Addr} (h:iw w E) (i:Nat) (hi:i < 5):Calls Tryz.prog 124 #[qw (E i)] w fun e w'=>e= .returned (.bool true)∧w=w':=by
 have v0:=h.var 0 (by omega);have v1:=h.var 1 (by omega);have v2:=h.var 2 (by omega);have v3:=h.var 3 (by omega);have v4:=h.var 4 (by omega);have HE:=hide h;clear h;match i,hi with
 |0,_|1,_|2,_|3,_|4,_=>
  go_enter Tryz.func124,Tryz.ntmps124
  go_wp2_with (go_at_call 147;first|(refine(acE HE _ _ true (by omega) (by omega) (by decide)).mono ?_;rintro e w1 ⟨rfl,rfl⟩)|(refine(acE HE _ _ false (by omega) (by omega) (by decide)).mono ?_;rintro e w1 ⟨rfl,rfl⟩))
  go_ret
  exact⟨rfl,rfl⟩
end Go.Proofs.YtfmdndhliinhpaaGreatDoor
namespace Go.Proofs.YtfmdndhliinhpaaGreatDoor
set_option maxHeartbeats 4000000
set_option maxRecDepth 100000
open Go.RowKit Go.Maps
open Mth
theorem Qp (a:Option Addr) (cap:Nat) (l:List Pu) (key:ByteArray) (dm df ds n:Int) (E:Nat→Addr) (w:World) (hl:l.length≤1048576) (hks:∀p∈l,p.k.size≤1048576) (hkey:key.size≤1048576)
 (hd1:dm= -1∨dm=0∨dm=1) (hd2:df= -1∨df=0∨df=1) (hd3:ds= -1∨ds=0∨ds=1) (ha:aH w a l) (he:iw w E):
 Calls Tryz.prog 123 #[.slice a l.length cap,.string key,.int .i64 n,shv dm df ds] w fun e w'=>Below w.heap.size w w'∧
  (((cK l key dm df ds n).2=false∧∃i,i < 5∧e= .returned (.tuple #[.slice none 0 0,qw (E i)]))∨
   ((cK l key dm df ds n).2=true∧∃g,w.heap.size≤g∧e= .returned (.tuple #[.slice (some ⟨g,0,none⟩) (cK l key dm df ds n).1.length (cK l key dm df ds n).1.length,.nilIface])∧sJ w' g (cK l key dm df ds n).1)):=by
 have hb0:=dA w (.cells #[.int .i64 dm,.int .i64 df,.int .i64 ds] 121);cases hok:iB l
 ·have l7:=hide (FX a cap l E _ (by omega) (GR.At.below ha hb0) (he.below hb0) hok);have HAD:=hide (Er (key:=key) (dm:=dm) (df:=df) (ds:=ds) (n:=n) hok);clear ha he hks hok hb0 hd1 hd2 hd3;go_enter Tryz.func123,Tryz.ntmps123
  go_wp2_with fail;refine l7.mono ?_;rintro e w1 ⟨rfl,hb1⟩;have HB1:=hide (Fo.one_block hb1).2.2;clear hb1;go_wp2_with fail;go_ret2
  exact⟨HB1,.inl ⟨by rw [ah HAD],_,by omega,rfl⟩⟩
 have WH:=hide (CW a cap l _ (GR.At.below ha hb0) hks hok);have HE:=hide he;cases hkk:keyOk key.data.toList
 ·have HK:=hide (fun w1=>wF key false w1 hkk)
  have HAD:Hid ((cK l key dm df ds n).2=false):=by
   by_cases hn:1≤n∧n≤1000000000
   ·rw [Fp hok hn,QN hkk];rfl
   ·rw [Fq hn];exact hide rfl
  clear ha he hks hok hb0 hd1 hd2 hd3 hkk;go_enter Tryz.func123,Tryz.ntmps123
  go_wp2_with fail;refine WH.mono ?_;rintro e w1 ⟨mp,mb,v,rfl,yE,hb1⟩;have HB1:=hide (Fo.one_block hb1).2.2;have ve:=(HE.below HB1).var 0 (by omega);clear hb1 yE WH;go_wp2_with (go_at_call 71;refine(HK _).mono ?_;rintro e w2 ⟨rfl,rfl⟩)
  go_quiet (fail);go_wp2_with fail;go_ret2
  exact⟨HB1.trans ⟨rfl,rfl,rfl,Nat.le_refl _,fun _ _=>rfl⟩,.inl ⟨HAD,_,by omega,rfl⟩⟩
 have HK:=hide (fun w1=>wF key true w1 hkk);by_cases hn:1≤n∧n≤1000000000
 case' neg=>
  have HAD:=hide (Fq (l:=l) (key:=key) (dm:=dm) (df:=df) (ds:=ds) hn)
  have Cr:=hide (fun w1=>aS n false w1 (decide_eq_false hn))
  clear ha he hks hok hb0 hd1 hd2 hd3 hkk
  go_enter Tryz.func123,Tryz.ntmps123
  go_wp2_with fail
  refine WH.mono ?_
  rintro e w1 ⟨mp,mb,v,rfl,yE,hb1⟩
  have HB1:=hide (Fo.one_block hb1).2.2
  have ve:=(HE.below HB1).var 1 (by omega)
  clear hb1 yE WH
  go_wp2_with (first|(go_at_call 71;refine(HK _).mono ?_;rintro e w2 ⟨rfl,rfl⟩)|(go_at_call 40;refine(Cr _).mono ?_;rintro e w2 ⟨rfl,rfl⟩))
  go_quiet (fail)
  go_wp2_with fail
  go_ret2
  exact⟨HB1.trans ⟨rfl,rfl,rfl,Nat.le_refl _,fun _ _=>rfl⟩,.inl ⟨by rw [ah HAD],_,by omega,rfl⟩⟩
 have Cr:=hide (fun w1=>aS n true w1 (decide_eq_true hn));have hpo:=vw (l:=l) (key:=key) hok hkk;have u1:=pY hd1 hn;have u2:=pY hd2 hn;have u3:=pY hd3 hn;obtain⟨_,hpw,au0⟩:=(jl l).1 hok;have HAI:=hide (Fp (key:=key) (dm:=dm) (df:=df) (ds:=ds) hok hn);have Q7:=hide hks;cases hsp:fT (dY (aG l key) dm df ds n)
 ·have Xj:=hide (fun B mp mb n0 v w1 (h:PM w1 B mp mb n0 v (l.map (·.k)) (aG l)) (he1:iw w1 E)=>FY B mp mb n0 v l key dm df ds n E w1 hkey hpo u1 u2 u3 h he1 hsp)
  have HAD:Hid ((cK l key dm df ds n).2=false):=by
   rw [ah HAI,hsp];rfl
  clear ha he hks hok hb0 hd1 hd2 hd3 hkk hpo u1 u2 u3 hpw hsp HAI;open ajz in exact aqf
 ·have Xj:=hide (fun B mp mb n0 v w1 (hB:B≤w1.heap.size) (hn0:n0 < maxLen) (h:PM w1 B mp mb n0 v (l.map (·.k)) (aG l)) (he1:iw w1 E)=>Jw B mp mb n0 v l key dm df ds n E w1 hB hkey hn0 au0 hpw hpo u1 u2 u3 h he1 hsp);have hkp:(dY (aG l key) dm df ds n).k=key:=nG l key
  have Rw:Hid (found l key=false→l.length=20→(cK l key dm df ds n).2=false):=by
   intro hf h20;have hlen:=sQ (l:=l) (p:=dY (aG l key) dm df ds n) (by rw [hkp];exact hf);rw [ah HAI,hsp,decide_eq_false (by omega)];rfl
  have R8:Hid ((found l key=true∨l.length < 20)→cK l key dm df ds n=(iC l (dY (aG l key) dm df ds n),true)∧(iC l (dY (aG l key) dm df ds n)).length≤20):=by
   intro hf
   have hlen:(iC l (dY (aG l key) dm df ds n)).length≤20:=by
    cases hff:found l key
    ·have:=sQ (l:=l) (p:=dY (aG l key) dm df ds n) (by rw [hkp];exact hff);rcases hf with hf|hf
     ·rw [hff] at hf;cases hf
     ·omega
    ·have:=pQ (l:=l) (p:=dY (aG l key) dm df ds n) (by rw [hkp];exact hff);omega
   rw [ah HAI,hsp,decide_eq_true hlen];exact⟨rfl,hlen⟩
  have xR:Hid (∀q∈iC l (dY (aG l key) dm df ds n),q.k.size≤1048576):=by
   intro q hq;rcases put_mem hq with rfl|hq
   ·rw [hkp];exact hkey
   ·exact Q7 q hq
  have HPA:=hide (aer hpw (dY (aG l key) dm df ds n));clear ha he hks hok hb0 hd1 hd2 hd3 hkk hpo u1 u2 u3 hpw hsp HAI hkp;generalize iC l (dY (aG l key) dm df ds n)=PL at *;generalize upd (aG l) (dY (aG l key) dm df ds n)=G2 at *;open ajy in exact aqf
end Go.Proofs.YtfmdndhliinhpaaGreatDoor
namespace Go.Proofs.YtfmdndhliinhpaaGreatDoor
set_option maxHeartbeats 2000000
set_option maxRecDepth 100000
open Go.RowKit Go.Maps
open Mth
theorem Mth.addP_no {l:List Pu} {key:ByteArray} {dm df ds n:Int} (h:(cK l key dm df ds n).2=false):(cK l key dm df ds n).1=l:=by
 exact acy
def jf (w:World) (r:List Pu×Bool) (e:Ending) (w':World):Prop:=∃a c g,w.heap.size≤g∧e= .returned (.tuple #[.slice a r.1.length c,.bool r.2])∧uf w' a g r.1∧Below w.heap.size w w'
theorem wG (a:Option Addr) (cap:Nat) (l:List Pu) (key:ByteArray) (dm df ds n:Int) (E:Nat→Addr) (w:World) (hl:l.length≤1048576) (hks:∀p∈l,p.k.size≤1048576) (hkey:key.size≤1048576)
 (hd1:dm= -1∨dm=0∨dm=1) (hd2:df= -1∨df=0∨df=1) (hd3:ds= -1∨ds=0∨ds=1) (ha:aH w a l) (he:iw w E):
 Calls Tryz.prog 103 #[.slice a l.length cap,.string key,.int .i64 n,shv dm df ds] w (jf w (cK l key dm df ds n)):=by
 have hb0:=dA w (.cells #[.int .i64 dm,.int .i64 df,.int .i64 ds] 121);have Xj:=hide (Qp a cap l key dm df ds n E _ hl hks hkey hd1 hd2 hd3 (GR.At.below ha hb0) (he.below hb0));have HE:=hide he;have Ls:=hide (fun w1 (hb:Below w.heap.size w w1)=>Jv a cap l w1 hl hks (GR.At.below ha hb));have l7:=hide (addP_no (l:=l) (key:=key) (dm:=dm) (df:=df) (ds:=ds) (n:=n));clear ha he hks hb0 hd1 hd2 hd3;generalize cK l key dm df ds n=r at *;obtain⟨L,bo⟩:=r;dsimp only at Xj l7;unfold jf;go_enter Tryz.func103,Tryz.ntmps103
 go_wp2_with fail;refine Xj.mono ?_;rintro e w1 ⟨hb1,hcase⟩;have HB1:=hide (Fo.one_block hb1).2.2;have HS:=hide hb1.size;clear hb1 Xj;rcases hcase with⟨hno,i,hi,rfl⟩|⟨hyes,g,hg,rfl,hblk⟩
 ·have hL:=ah l7 hno;subst hno hL;have HIR:=hide (F7 (HE.below HB1) i hi);have HCX:=hide (Ls _ HB1);clear Ls l7;go_wp2_with fail;refine HIR.mono ?_;rintro e w2 ⟨rfl,rfl⟩;go_wp2_with fail;refine HCX.mono ?_;rintro e w3 ⟨a3,c3,g3,hg3,rfl,hblk3,hb3⟩;have HK3:=hide hblk3;have HB3:=hide (HB1.trans (hb3.mono HB1.size));clear hblk3 hb3;go_wp2_with fail;go_ret2
  exact⟨_,_,g3,Nat.le_trans HB1.size hg3,rfl,HK3,HB3⟩
 ·subst hyes;have HIR:=hide (Dg (HE.below HB1));have HK:=hide hblk;have hge:w.heap.size≤g:=by have:=ah HS;simp at hg;omega
  clear Ls l7 hblk;go_wp2_with fail;refine HIR.mono ?_;rintro e w2 ⟨rfl,rfl⟩;go_wp2_with fail;go_ret2
  exact⟨_,_,g,hge,rfl,uf.of_blk HK,HB1⟩
theorem Vh (a:Option Addr) (cap:Nat) (l:List Pu) (key:ByteArray) (n:Int) (E:Nat→Addr) (w:World) (hl:l.length≤1048576) (hks:∀p∈l,p.k.size≤1048576) (hkey:key.size≤1048576) (ha:aH w a l) (he:iw w E):
 Calls Tryz.prog 77 #[.slice a l.length cap,.string key,.int .i64 n] w (jf w (cK l key (1) (1) (0) n)):=by
 have H:=hide (wG a cap l key (1) (1) (0) n E w hl hks hkey (by omega) (by omega) (by omega) ha he);clear ha he hks;generalize cK l key (1) (1) (0) n=r at *;unfold jf at *;go_enter Tryz.func77,Tryz.ntmps77
 exact Ud
theorem Vf (a:Option Addr) (cap:Nat) (l:List Pu) (key:ByteArray) (n:Int) (E:Nat→Addr) (w:World) (hl:l.length≤1048576) (hks:∀p∈l,p.k.size≤1048576) (hkey:key.size≤1048576) (ha:aH w a l) (he:iw w E):
 Calls Tryz.prog 130 #[.slice a l.length cap,.string key,.int .i64 n] w (jf w (cK l key (0) (1) (0) n)):=by
 have H:=hide (wG a cap l key (0) (1) (0) n E w hl hks hkey (by omega) (by omega) (by omega) ha he);clear ha he hks;generalize cK l key (0) (1) (0) n=r at *;unfold jf at *;go_enter Tryz.func130,Tryz.ntmps130
 exact Ud
theorem Vj (a:Option Addr) (cap:Nat) (l:List Pu) (key:ByteArray) (n:Int) (E:Nat→Addr) (w:World) (hl:l.length≤1048576) (hks:∀p∈l,p.k.size≤1048576) (hkey:key.size≤1048576) (ha:aH w a l) (he:iw w E):
 Calls Tryz.prog 109 #[.slice a l.length cap,.string key,.int .i64 n] w (jf w (cK l key (0) (-1) (0) n)):=by
 have H:=hide (wG a cap l key (0) (-1) (0) n E w hl hks hkey (by omega) (by omega) (by omega) ha he);clear ha he hks;generalize cK l key (0) (-1) (0) n=r at *;unfold jf at *;go_enter Tryz.func109,Tryz.ntmps109
 exact Ud
theorem Qs (a:Option Addr) (cap:Nat) (l:List Pu) (key:ByteArray) (n:Int) (E:Nat→Addr) (w:World) (hl:l.length≤1048576) (hks:∀p∈l,p.k.size≤1048576) (hkey:key.size≤1048576) (ha:aH w a l) (he:iw w E):
 Calls Tryz.prog 79 #[.slice a l.length cap,.string key,.int .i64 n] w (jf w (cK l key (0) (-1) (1) n)):=by
 have H:=hide (wG a cap l key (0) (-1) (1) n E w hl hks hkey (by omega) (by omega) (by omega) ha he);clear ha he hks;generalize cK l key (0) (-1) (1) n=r at *;unfold jf at *;go_enter Tryz.func79,Tryz.ntmps79
 exact Ud
theorem JC (a:Option Addr) (cap:Nat) (l:List Pu) (key:ByteArray) (n:Int) (E:Nat→Addr) (w:World) (hl:l.length≤1048576) (hks:∀p∈l,p.k.size≤1048576) (hkey:key.size≤1048576) (ha:aH w a l) (he:iw w E):
 Calls Tryz.prog 81 #[.slice a l.length cap,.string key,.int .i64 n] w (jf w (cK l key (0) (1) (-1) n)):=by
 have H:=hide (wG a cap l key (0) (1) (-1) n E w hl hks hkey (by omega) (by omega) (by omega) ha he);clear ha he hks;generalize cK l key (0) (1) (-1) n=r at *;unfold jf at *;go_enter Tryz.func81,Tryz.ntmps81
 exact Ud
end Go.Proofs.YtfmdndhliinhpaaGreatDoor
namespace Go.Proofs.YtfmdndhliinhpaaGreatDoor
set_option maxHeartbeats 4000000
set_option maxRecDepth 100000
open Go.RowKit
open Mth
theorem yR (wb:Nat) (a:Option Addr) (len cp:Nat) (w:World):Calls Tryz.prog 76 #[.pointer (some ⟨wb,0,none⟩),.slice a len cp,.bool false] w fun e w'=>e= .returned (.bool false)∧w=w':=by
 exact acv
theorem vD (wb:Nat) (n:Nd) (A:bQ) (v:Value) (a:Option Addr) (len cp:Nat) (w:World) (h:w.heap[wb]?=some (.cells (Ll n A v) 50 (0,0))):Calls Tryz.prog 76 #[.pointer (some ⟨wb,0,none⟩),.slice a len cp,.bool true] w fun e w'=>e= .returned (.bool true)∧w.setCell ⟨wb,4,none⟩ (.slice a len cp)=w':=by
 obtain⟨c0,c1,c2,c3,c4,c5,c6,c7,c8,c9⟩:=iI h;have f4:=aj h 4;clear h;exact acv
theorem O4 {w0 w x:World} {wb:Nat} {n:Nd} {A:bQ} {G:aX} {c:Nat→Nat} {v:Value} {L:List Mg} (h:WK w0 w wb n A G c v L) {r:List Pu×Bool} {a:Option Addr} {cp g:Nat} (hb:Below w.heap.size w x) (hg:w.heap.size≤g) (hp:uf x a g r.1):
 Calls Tryz.prog 76 #[.pointer (some ⟨wb,0,none⟩),.slice a r.1.length cp,.bool r.2] x fun e w'=>e= .returned (.bool r.2)∧∃A' G' c',WK w0 w' wb (if r.2=true then setPu n r.1 else n) A' G' c' v L:=by
 obtain⟨l,b⟩:=r;cases b with
 |false=>
  refine(yR wb a l.length cp x).mono ?_
  rintro e w' ⟨rfl,rfl⟩
  exact⟨rfl,A,G,c,h.step hb⟩
 |true=>
  refine(vD wb n A v a l.length cp x (h.step hb).blk).mono ?_
  rintro e w' ⟨rfl,rfl⟩
  exact⟨rfl,_,_,_,h.setPu hb hp (fun y hy=>by rw [(fD hy).1];exact hg)⟩
def rz (n:Nd) (o:iK):Nd×Int:=if n.par= -1∧(cK n.pu o.k 1 1 0 o.n).2=true then(setPu n (cK n.pu o.k 1 1 0 o.n).1,0) else(n,1)
theorem QX (w0 w:World) (wb:Nat) (n:Nd) (A:bQ) (G:aX) (c:Nat→Nat) (v:Value) (L:List Mg) (o:iK) (hpar:¬n.par= -1) (h:WK w0 w wb n A G c v L):
 Calls Tryz.prog 46 #[.pointer (some ⟨wb,0,none⟩),jY o] w fun e w'=>e= .returned (.int .i64 (rz n o).2)∧∃A' G' c',WK w0 w' wb (rz n o).1 A' G' c' v L:=by
 have hR:rz n o=(n,1):=if_neg (fun hx=>hpar hx.1);rw [hR];have hq:(n.par != -1)=true:=by simpa using hpar
 have hq2:(n.par == -1)=false:=by simpa using hpar
 have HW:=hide h;obtain⟨K,no,k,nn,⟨mK,mF,mT,mI,mL,mk,mN⟩⟩:=o;open atQ in exact Fg
theorem Nq (w0 w:World) (wb:Nat) (n:Nd) (A:bQ) (G:aX) (c:Nat→Nat) (v:Value) (L:List Mg) (o:iK) (E:Nat→Addr) (hz:eF n 1048576) (hk:o.k.size≤1048576) (hpar:n.par= -1) (h:WK w0 w wb n A G c v L) (he:iw w0 E):
 Calls Tryz.prog 46 #[.pointer (some ⟨wb,0,none⟩),jY o] w fun e w'=>e= .returned (.int .i64 (rz n o).2)∧∃A' G' c',WK w0 w' wb (rz n o).1 A' G' c' v L:=by
 have hR:rz n o=((if (cK n.pu o.k 1 1 0 o.n).2=true then setPu n (cK n.pu o.k 1 1 0 o.n).1 else n),(if (cK n.pu o.k 1 1 0 o.n).2=true then 0 else 1)):=by
  unfold rz;cases hb:(cK n.pu o.k 1 1 0 o.n).2<;>simp[hpar]
 rw [hR];have hq:(n.par != -1)=false:=by simpa using hpar
 have hq2:(n.par == -1)=true:=by simpa using hpar
 have HW:=hide h;have HMI:=hide (fun w1 (hb:Below w.heap.size w w1)=>Vh A.p A.cp n.pu o.k o.n E w1 hz.p hz.pk hk (GR.At.below h.no.p.at hb) (he.below (h.keep.trans (hb.mono h.keep.size))));unfold jf at HMI;obtain⟨K,no,k,nn,⟨mK,mF,mT,mI,mL,mk,mN⟩⟩:=o;dsimp only at HMI ⊢;generalize cK n.pu k 1 1 0 nn=r at *;open atP in exact Fg
theorem aeH (w0 w:World) (wb:Nat) (n:Nd) (A:bQ) (G:aX) (c:Nat→Nat) (v:Value) (L:List Mg) (o:iK) (E:Nat→Addr) (hz:eF n 1048576) (hk:o.k.size≤1048576) (h:WK w0 w wb n A G c v L) (he:iw w0 E):
 Calls Tryz.prog 46 #[.pointer (some ⟨wb,0,none⟩),jY o] w fun e w'=>e= .returned (.int .i64 (rz n o).2)∧∃A' G' c',WK w0 w' wb (rz n o).1 A' G' c' v L:=by
 by_cases hpar:n.par= -1
 ·exact Nq w0 w wb n A G c v L o E hz hk hpar h he
 ·exact QX w0 w wb n A G c v L o hpar h
end Go.Proofs.YtfmdndhliinhpaaGreatDoor
namespace Go.Proofs.YtfmdndhliinhpaaGreatDoor
open Go.RowKit
open Mth
theorem dG {P:Program} (w:World) (base:Nat) (t ty e:TypeId) (i:TypeInfo) (z:Value) (size bytes:Nat) (ht:P.underlying t=some (.slice e)) (hi:P.info? e=some i) (hz:i.zero=some z)
 (hsize:i.size=size) (hby:i.bytes=bytes) (hzs:z.cells.size=size) (hsz:0 < size)
 (v:Value) (n:Nat) (xs:List Value) (hown:w.ownsRow base e size v n xs)
 (a:Addr) (m c:Nat) (news:List Value) (hl:news.length=m*size) (hnews:∀j u,news[j]?=some u→w.cell? (a.add j)=some u) (h1:∀u∈news,u.oneCell'=true)
 (h63:n+m≤maxLen) (hbytes:(n+m)*bytes≤140737488355328) (hbase:base≤w.heap.size):
 ∃v' w',(Builtin.append_ #[t,t] ty #[v,.slice (some a) m c]).run P w= .ok v' w'∧w'.ownsRow base e size v' (n+m) (xs++news)∧w.grownBy w' v.ownBlock∧
  ∀x,v'.ownBlock=some x→v.ownBlock=some x∨w.heap.size≤x:=by
 obtain⟨v',w',hr,ho,hg,_⟩:=run_append_own w base t ty e i z size bytes ht hi hz hsize hby hzs hsz v n xs hown a m c news hl hnews h1 h63 hbytes hbase;refine⟨v',w',hr,ho,hg,fun x hx=>?_⟩;have hsmall:n+m≤9223372036854775807:=by simp only[maxLen] at h63;omega
 rcases hown.2 with⟨rfl,rfl⟩|⟨g,cap,cur,rfl,hbg,hgg,hnc,hcm,hcs,htake⟩
 ·have hxs:xs=[]:=List.eq_nil_of_length_eq_zero (by simpa using hown.1);subst hxs;obtain⟨v2,w2,hr2,ho2,_,_⟩:=run_append_own w w.heap.size t ty e i z size bytes ht hi hz hsize hby hzs hsz (.slice none 0 0) 0 [] (World.ownsRow_nil w _ e size) a m c news hl hnews h1 h63 hbytes (Nat.le_refl _);have he:=hr.symm.trans hr2;simp only[Result.ok.injEq] at he;obtain⟨rfl,rfl⟩:=he;exact .inr (ho2.lt x hx).1
 ·subst hsize;subst hby;by_cases hroom:n+m≤cap
  ·have hfit:n*i.size+news.length≤cur.size:=by rw [hl,hcs,←Nat.add_mul];exact Nat.mul_le_mul_right _ hroom
   have hr2:=run_append_room (P:=P) w t ty e i ht hi g n cap cur hgg a m c news hl hnews h1 hroom hfit;have he:=hr.symm.trans hr2;simp only[Result.ok.injEq] at he;obtain⟨rfl,_⟩:=he;exact .inl hx
  ·have holds:∀j u,xs[j]?=some u→w.cell? ((⟨g,0,none⟩:Addr).add j)=some u:=hown.cells (g:=g) rfl;have hr2:=run_append_grow (P:=P) w t ty e i z ht hi hz ⟨g,0,none⟩ n cap xs hown.1 holds a m c news hl hnews (by omega) (by omega) (growslice_fits (by omega) hbytes);have he:=hr.symm.trans hr2;simp only[Result.ok.injEq] at he;obtain⟨rfl,_⟩:=he;have:w.heap.size=x:=by simpa [Value.ownBlock] using hx
   exact .inr (by omega)
theorem rE {P:Program} (w:World) {o:Oper} {a:Act} {K:Act→World→Prop} {Q:Exit→Act→World→Prop} (s x:Operand) (t:TypeId)
 (ho:o.op= .call {callee:= .builtin .append,args:=#[s,x],argTypes:=#[t,t]})
 (base:Nat) (e:TypeId) (i:TypeInfo) (z:Value) (size bytes:Nat) (ht:P.underlying t=some (.slice e)) (hi:P.info? e=some i) (hz:i.zero=some z)
 (hsize:i.size=size) (hby:i.bytes=bytes) (hzs:z.cells.size=size) (hsz:0 < size)
 (v:Value) (n:Nat) (xs:List Value) (hs:a.eval s=v) (hown:w.ownsRow base e size v n xs)
 (ad:Addr) (m c:Nat) (news:List Value) (hx:a.eval x= .slice (some ad) m c) (hl:news.length=m*size) (hnews:∀j u,news[j]?=some u→w.cell? (ad.add j)=some u) (h1:∀u∈news,u.oneCell'=true)
 (h63:n+m≤maxLen) (hbytes:(n+m)*bytes≤140737488355328) (hbase:base≤w.heap.size)
 (h:∀v' w',w'.ownsRow base e size v' (n+m) (xs++news)→w.grownBy w' v.ownBlock→(∀x,v'.ownBlock=some x→v.ownBlock=some x∨w.heap.size≤x)→K (a.put o.dst v') w'):o.wp P a w K Q:=by
 obtain⟨v',w',hr,h2,h3,h4⟩:=dG w base t o.type e i z size bytes ht hi hz hsize hby hzs hsz v n xs hown ad m c news hl hnews h1 h63 hbytes hbase;exact Lib.wp_append_run w s x t t ho _ _ hs hx v' w' hr (h v' w' h2 h3 h4)
end Go.Proofs.YtfmdndhliinhpaaGreatDoor

