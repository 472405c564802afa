/- Parts. -/
import Derived.Test.YtfmdndhliinhpaaGreatDoorRa28
namespace Go.Proofs.YtfmdndhliinhpaaGreatDoor
set_option maxHeartbeats 8000000
set_option maxRecDepth 100000
open Go.RowKit
open Mth
theorem Vv (a:Option Addr) (cap:Nat) (l:List Pu) (w:World) (hl:l.length≤1048600) (ha:aH w a l):
 Calls Tryz.prog 92 #[.slice a l.length cap] w fun e w'=>∃a' c',e= .returned (.slice a' l.length c')∧w'.ownsRow w.heap.size 84 4 (.slice a' l.length c') l.length (GR.flat eG l)∧Below w.heap.size w w'∧(∃g,a'=some ⟨g,0,none⟩)∧l.length≤c':=by
 obtain⟨i0,hi,hz0,hz1,hz2⟩:=info_parts yK;obtain⟨a',c',y,hrun,hrow,hby,hsm⟩:=run_copy_row (P:=Tryz.prog) (enc:=eG) aV (by omega) w 25 84 i0 (.agg #[.string ByteArray.empty,.int .i64 0,.int .i64 0,.int .i64 0]) 40 Tryz.underlying25 hi hz0 hz1 hz2 rfl a l cap ha (wm l) (by unfold maxLen;omega) (by omega);have HR:=hide hrow;have HB:=hide hby;have Rb:=hide hsm;clear ha hi hz0 hz1 hz2 hrow hby hsm;go_enter Tryz.func92,Tryz.ntmps92
 go_wp2_with (at_builtin;refine eX rfl _ _ 25 rfl _ _ rfl rfl _ _ (hrun _) ?_)
 go_ret;exact⟨a',c',rfl,HR,HB,Rb⟩
def zx (s0 s1 s2 s3 s4 gs x:Nat):Nat:=if x < s0 then 0 else if x < s1 then 1 else if x < s2 then 2 else if x < s3 then 3 else if x < s4 then 6 else if x=gs then 4 else 5
structure SM (W4 wr:World) (ob k:Nat) (l:List Sn) (T2:List R3) (I:Nat→Nat) (a:Option Addr) (cs:Nat):Prop where
 len:T2.length=k
 own:wr.ownsRow W4.heap.size 57 3 (.slice a k cs) k (GR.flat dD T2)
 dn:∀i (hi:i < l.length),i < k→∃b c,T2[i]?=some ⟨l[i].f,l[i].l,.slice b l[i].ids.length c⟩∧WO wr b c (I i) l[i].ids∧∀x∈fp (I i) l[i].ids,W4.heap.size≤x∧x < wr.heap.size∧(Value.slice a k cs).ownBlock≠some x
 nd:∀i j (hi:i < l.length) (hj:j < l.length),i < j→j < k→0 < l[i].ids.length→0 < l[j].ids.length→I i≠I j
 kp:aC [ob] W4 wr
theorem SM.next {W4 wr x y:World} {ob k:Nat} {l:List Sn} {T2:List R3} {I:Nat→Nat} {a a2:Option Addr} {cs c2 gi cc:Nat} {b:Option Addr} (h:SM W4 wr ob k l T2 I a cs) (hk:k < l.length) (hob:ob < W4.heap.size) (hx:Below wr.heap.size wr x)
 (hi:WO x b cc gi l[k].ids) (hlt:∀z∈fp gi l[k].ids,wr.heap.size≤z∧z < x.heap.size)
 (ho:y.ownsRow W4.heap.size 57 3 (.slice a2 (k+1) c2) (k+1) (GR.flat dD T2++dD ⟨l[k].f,l[k].l,.slice b l[k].ids.length cc⟩)) (hg:x.grownBy y (Value.slice a k cs).ownBlock) (hw:∀z,(Value.slice a2 (k+1) c2).ownBlock=some z→(Value.slice a k cs).ownBlock=some z∨x.heap.size≤z):
 SM W4 (y.setCell ⟨ob,6,none⟩ (.slice a2 (k+1) c2)) ob (k+1) l (T2++[⟨l[k].f,l[k].l,.slice b l[k].ids.length cc⟩]) (fun i=>if i=k then gi else I i) a2 c2:=by
 have hs:y.heap.size=(y.setCell ⟨ob,6,none⟩ (.slice a2 (k+1) c2)).heap.size:=by simp[World.setCell]
 have hkp:aC [ob] y (y.setCell ⟨ob,6,none⟩ (.slice a2 (k+1) c2)):=aC.set _;have hx1:=hx.size;have hx2:=hg.size;have hx3:=h.kp.size;have hoo:=h.own.lt;have hxy:aC (Value.slice a k cs).ownBlock.toList x y:=⟨hg.os,hg.tape,hg.output,hg.size,fun z hz hne=>hg.block z hz (fun e=>hne (by rw [←e];simp))⟩;refine⟨by simp[h.len],?_,fun i hi' hik=>?_,fun i j hi' hj hij hjk h1 h2=>?_,?_⟩
 ·rw [GR.flat_append,GR.flat_one];exact dB ho hkp (fun z hz=>by have:z=ob:=(by simpa using hz);omega)
 ·by_cases e:i=k
  ·subst e;refine⟨b,cc,by rw [List.getElem?_append_right (by rw [h.len];exact Nat.le_refl _),h.len];simp,?_,?_⟩
   ·rw [if_pos rfl];refine(hi.keeps hxy (fun z hz hm=>?_)).keeps hkp (fun z hz hm=>?_)
    ·have h1:(Value.slice a i cs).ownBlock=some z:=by simpa using hm
     have:=(hoo z h1).2;have:=(hlt z hz).1;omega
    ·have:=(hlt z hz).1;have:z=ob:=(by simpa using hm);omega
   ·rw [if_pos rfl];refine fun z hz=>⟨by have:=(hlt z hz).1;omega,by rw [←hs];have:=(hlt z hz).2;omega,fun e2=>?_⟩
    rcases hw z e2 with h1|h1
    ·have:=(hoo z h1).2;have:=(hlt z hz).1;omega
    ·have:=(hlt z hz).2;omega
  ·obtain⟨b',c',e1,e2,e3⟩:=h.dn i hi' (by omega);refine⟨b',c',by rw [List.getElem?_append_left (by rw [h.len];omega)];exact e1,?_,?_⟩
   ·rw [if_neg e];refine((e2.below hx).keeps hxy (fun z hz hm=>?_)).keeps hkp (fun z hz hm=>?_)
    ·exact(e3 z hz).2.2 (by simpa using hm)
    ·have:=(e3 z hz).1;have:z=ob:=(by simpa using hm);omega
   ·rw [if_neg e];refine fun z hz=>⟨(e3 z hz).1,by rw [←hs];have:=(e3 z hz).2.1;omega,fun e4=>?_⟩
    rcases hw z e4 with h1|h1
    ·exact(e3 z hz).2.2 h1
    ·have:=(e3 z hz).2.1;omega
 ·by_cases ej:j=k
  ·subst ej;rw [if_neg (by omega),if_pos rfl];obtain⟨_,_,_,_,e3⟩:=h.dn i hi' (by omega);have q1:=(e3 (I i) (dz h1)).2.1;have q2:=(hlt gi (dz h2)).1;omega
  ·exact acu
 ·refine⟨hg.os.trans (hx.os.trans h.kp.os),hg.tape.trans (hx.tape.trans h.kp.tape),hg.output.trans (hx.output.trans h.kp.output),by rw [←hs];omega,fun z hz hm=>?_⟩;have hne:z≠ob:=by simpa using hm
  rw [Below.heap_setCell _ _ _ _ hne,hg.block z (by omega) (fun e=>by have:=(hoo z e.symm).1;omega),hx.block z (by omega)];exact h.kp.block z hz hm
theorem SM.done {W4 wr:World} {ob:Nat} {l:List Sn} {T2:List R3} {I:Nat→Nat} {a:Option Addr} {cs:Nat} (h:SM W4 wr ob l.length l T2 I a cs):∃g,lJ wr a g I l∧(∀x∈fp g l,W4.heap.size≤x)∧(∀x∈nT I l,W4.heap.size≤x∧x < wr.heap.size∧x∉fp g l)∧(nT I l).Nodup:=by
 open am8 in exact aaJ
theorem Gs (n:Nd) (A:bQ) (w:World) (hz:eF n 1048576) (ha:dQ w A n):
 Calls Tryz.prog 58 #[fU n A] w fun e w'=>∃A' G' c',e= .returned (fU n A')∧NQ w' w.heap.size n A' G' c'∧Below w.heap.size w w'∧(∃g,A'.p=some ⟨g,0,none⟩)∧n.pu.length≤A'.cp∧(∃g,A'.r=some ⟨g,0,none⟩)∧n.reqs.length≤A'.cr:=by
 have HZ:=hide hz;have HA:=hide ha;have hlk:=hz.k;have hlp:=hz.p;have hlo:=hz.o;have hls:=hz.s;have hlr:=hz.r;clear hz ha;go_enter Tryz.func58,Tryz.ntmps58
 go_upto_region 2 with fail;refine wp_at (fun W0 hW=>?_);obtain⟨e1,e2,e3,e4⟩:=fJ w (.cells (fO n A) 30) (.cells iV 30) (.cells (fO n A) 30);rw [←hW] at e1 e2 e3 e4;have uo:=hide e1;have Iu:=hide e2;have Ef:=hide e3;have Aw:=hide e4;have hsz0:=aA e3;clear hW e1 e2 e3 e4;obtain⟨c0,c1,c2,c3,c4,c5,c6,c7,c8⟩:=nine uo;have adY:=aA uo;have avg:=aA Ef;obtain⟨i0,hi,hz0,hz1,hz2⟩:=info_parts qA;obtain⟨ak,ck,avz,hrun,hrow,hby,_⟩:=run_copy_row (P:=Tryz.prog) (enc:=aP) aN (by omega) W0 24 3 i0 (.int .i64 0) 8 Tryz.underlying24 hi hz0 hz1 hz2 rfl A.k n.kids A.ck (GR.At.below HA.k Aw) (by intro u hu;rw [Bh] at hu;obtain⟨z,_,rfl⟩:=List.mem_map.1 hu;rfl) (by unfold maxLen;omega) (by omega);clear hi hz0 hz1 hz2;have vS:=hide hby;obtain⟨d0,d1,d2,d3,d4,d5,d6,d7,d8⟩:=nine (au Ef hby);have f1:=aj (au Ef hby) 2;have Mw:=aA (au Ef hby);clear hby;go_upto_region 3 with(at_builtin;refine eX rfl _ _ 24 rfl _ _ rfl rfl _ _ (hrun _) ?_)
 refine wp_at (fun W1 hW=>?_);have Uz:=au Ef vS;have uq:Hid (W1.heap[w.heap.size]?=some (.cells (fO n A) 30 (0,0))):=by rw [hW];exact(Below.heap_setCell _ _ _ _ (show w.heap.size≠w.heap.size+2 by omega)).trans (au uo vS)
 have Iw:Hid (W1.heap[w.heap.size+1]?=some (.cells iV 30 (0,0))):=by rw [hW];exact(Below.heap_setCell _ _ _ _ (show w.heap.size+1≠w.heap.size+2 by omega)).trans (au Iu vS)
 have Eh:Hid (W1.heap[w.heap.size+2]?=some (.cells #[.int .i64 n.id,.int .i64 n.par,.slice ak n.kids.length ck,.int .i64 n.next,.slice A.p n.pu.length A.cp,.slice A.o n.out.length A.co,.slice A.s n.seen.length A.cs,.int .i64 n.old,.slice A.r n.reqs.length A.cr] 30 (0,0))):=by rw [hW];exact mV Uz
 have Az:Hid (Below w.heap.size w W1):=by rw [hW];exact qj (by omega) (Aw.trans (vS.mono Aw.size))
 have Ie:Hid (aC [w.heap.size+2] W0 W1):=by rw [hW];exact qB vS
 have Oc:Hid (aC [w.heap.size+2] avz W1):=by rw [hW];exact aC.set _
 clear hW Uz uo Iu Ef;clear c0 c1 c2 c3 c4 c5 c6 c7 c8 d0 d1 d2 d3 d4 d5 d6 d7 d8 f1 Mw hrun;have HKW:Hid (W1.ownsRow W0.heap.size 3 1 (.slice ak n.kids.length ck) n.kids.length (GR.flat aP n.kids)):=dB hrow Oc (fun x hx=>by have:x=w.heap.size+2:=(by simpa using hx);omega);clear hrow;obtain⟨c0,c1,c2,c3,c4,c5,c6,c7,c8⟩:=nine uq;have adZ:=aA uq;have avh:=aA Eh;go_wp2_with fail;refine(Vv A.p A.cp n.pu W1 (by omega) (GR.At.below HA.p Az)).mono ?_;rintro e avA ⟨ap,cp,rfl,hrow,hby,hsm⟩;have HPS:=hide hsm;clear hsm;have vT:=hide hby;obtain⟨d0,d1,d2,d3,d4,d5,d6,d7,d8⟩:=nine (au Eh hby);have f1:=aj (au Eh hby) 4;have Mw:=aA (au Eh hby);clear hby c0 c1 c2 c3 c4 c5 c6 c7 c8;go_upto_region 4 with fail;refine wp_at (fun W2 hW=>?_);have Uz:=au Eh vT;have uw:Hid (W2.heap[w.heap.size]?=some (.cells (fO n A) 30 (0,0))):=by rw [hW];exact(Below.heap_setCell _ _ _ _ (show w.heap.size≠w.heap.size+2 by omega)).trans (au uq vT)
 have Iz:Hid (W2.heap[w.heap.size+1]?=some (.cells iV 30 (0,0))):=by rw [hW];exact(Below.heap_setCell _ _ _ _ (show w.heap.size+1≠w.heap.size+2 by omega)).trans (au Iw vT)
 have Ei:Hid (W2.heap[w.heap.size+2]?=some (.cells #[.int .i64 n.id,.int .i64 n.par,.slice ak n.kids.length ck,.int .i64 n.next,.slice ap n.pu.length cp,.slice A.o n.out.length A.co,.slice A.s n.seen.length A.cs,.int .i64 n.old,.slice A.r n.reqs.length A.cr] 30 (0,0))):=by rw [hW];exact mV Uz
 have AA:Hid (Below w.heap.size w W2):=by rw [hW];exact qj (by omega) (Az.trans (vT.mono Az.size))
 have Ea:Hid (aC [w.heap.size+2] W1 W2):=by rw [hW];exact qB vT
 have Oe:Hid (aC [w.heap.size+2] avA W2):=by rw [hW];exact aC.set _
 clear hW Uz uq Iw Eh;clear d0 d1 d2 d3 d4 d5 d6 d7 d8 f1 Mw;have Cu:Hid (W2.ownsRow W1.heap.size 84 4 (.slice ap n.pu.length cp) n.pu.length (GR.flat eG n.pu)):=dB hrow Oe (fun x hx=>by have:x=w.heap.size+2:=(by simpa using hx);omega);clear hrow;obtain⟨c0,c1,c2,c3,c4,c5,c6,c7,c8⟩:=nine uw;have ad1:=aA uw;have avi:=aA Ei;obtain⟨i0,hi,hz0,hz1,hz2⟩:=info_parts JD;obtain⟨ao,co,avB,hrun,hrow,hby,_⟩:=run_copy_row (P:=Tryz.prog) (enc:=aU) cu (by omega) W2 26 55 i0 (.agg #[.int .i64 0,.int .i64 0,.string ByteArray.empty,.int .i64 0]) 40 Tryz.underlying26 hi hz0 hz1 hz2 rfl A.o n.out A.co (GR.At.below HA.o AA) (zi _) (by unfold maxLen;omega) (by omega);clear hi hz0 hz1 hz2;have vU:=hide hby;obtain⟨d0,d1,d2,d3,d4,d5,d6,d7,d8⟩:=nine (au Ei hby);have f1:=aj (au Ei hby) 5;have Mw:=aA (au Ei hby);clear hby;go_upto_region 5 with(at_builtin;refine eX rfl _ _ 26 rfl _ _ rfl rfl _ _ (hrun _) ?_)
 refine wp_at (fun W3 hW=>?_);have Uz:=au Ei vU;have uy:Hid (W3.heap[w.heap.size]?=some (.cells (fO n A) 30 (0,0))):=by rw [hW];exact(Below.heap_setCell _ _ _ _ (show w.heap.size≠w.heap.size+2 by omega)).trans (au uw vU)
 have IB:Hid (W3.heap[w.heap.size+1]?=some (.cells iV 30 (0,0))):=by rw [hW];exact(Below.heap_setCell _ _ _ _ (show w.heap.size+1≠w.heap.size+2 by omega)).trans (au Iz vU)
 have Ej:Hid (W3.heap[w.heap.size+2]?=some (.cells #[.int .i64 n.id,.int .i64 n.par,.slice ak n.kids.length ck,.int .i64 n.next,.slice ap n.pu.length cp,.slice ao n.out.length co,.slice A.s n.seen.length A.cs,.int .i64 n.old,.slice A.r n.reqs.length A.cr] 30 (0,0))):=by rw [hW];exact mV Uz
 have D8:Hid (Below w.heap.size w W3):=by rw [hW];exact qj (by omega) (AA.trans (vU.mono AA.size))
 have Eb:Hid (aC [w.heap.size+2] W2 W3):=by rw [hW];exact qB vU
 have Sm:Hid (aC [w.heap.size+2] avB W3):=by rw [hW];exact aC.set _
 clear hW Uz uw Iz Ei;clear c0 c1 c2 c3 c4 c5 c6 c7 c8 d0 d1 d2 d3 d4 d5 d6 d7 d8 f1 Mw hrun;have HOW:Hid (W3.ownsRow W2.heap.size 55 4 (.slice ao n.out.length co) n.out.length (GR.flat aU n.out)):=dB hrow Sm (fun x hx=>by have:x=w.heap.size+2:=(by simpa using hx);omega);clear hrow;obtain⟨c0,c1,c2,c3,c4,c5,c6,c7,c8⟩:=nine uy;have ad3:=aA uy;have avj:=aA Ej;obtain⟨i0,hi,hz0,hz1,hz2⟩:=info_parts tL;obtain⟨ar,cr,avC,hrun,hrow,hby,hsr⟩:=run_copy_row (P:=Tryz.prog) (enc:=aJ) aY (by omega) W3 28 43 i0 (.agg #[.int .i64 0,.string ByteArray.empty,.int .i64 0,.int .i64 0]) 40 Tryz.underlying28 hi hz0 hz1 hz2 rfl A.r n.reqs A.cr (GR.At.below HA.r D8) (gQ _) (by unfold maxLen;omega) (by omega);clear hi hz0 hz1 hz2;have HRS:=hide hsr;clear hsr;have IJ:=hide hby;obtain⟨d0,d1,d2,d3,d4,d5,d6,d7,d8⟩:=nine (au Ej hby);have f1:=aj (au Ej hby) 8;have Mw:=aA (au Ej hby);clear hby;go_upto_region 6 with(at_builtin;refine eX rfl _ _ 28 rfl _ _ rfl rfl _ _ (hrun _) ?_)
 refine wp_at (fun W4 hW=>?_);have Uz:=au Ej IJ;have vO:Hid (W4.heap[w.heap.size]?=some (.cells (fO n A) 30 (0,0))):=by rw [hW];exact(Below.heap_setCell _ _ _ _ (show w.heap.size≠w.heap.size+2 by omega)).trans (au uy IJ)
 have N9:Hid (W4.heap[w.heap.size+1]?=some (.cells iV 30 (0,0))):=by rw [hW];exact(Below.heap_setCell _ _ _ _ (show w.heap.size+1≠w.heap.size+2 by omega)).trans (au IB IJ)
 have N7:Hid (W4.heap[w.heap.size+2]?=some (.cells #[.int .i64 n.id,.int .i64 n.par,.slice ak n.kids.length ck,.int .i64 n.next,.slice ap n.pu.length cp,.slice ao n.out.length co,.slice A.s n.seen.length A.cs,.int .i64 n.old,.slice ar n.reqs.length cr] 30 (0,0))):=by rw [hW];exact mV Uz
 have AJ:Hid (Below w.heap.size w W4):=by rw [hW];exact qj (by omega) (D8.trans (IJ.mono D8.size))
 have Ec:Hid (aC [w.heap.size+2] W3 W4):=by rw [hW];exact qB IJ
 have afm:Hid (aC [w.heap.size+2] avC W4):=by rw [hW];exact aC.set _
 clear hW Uz uy IB Ej;clear c0 c1 c2 c3 c4 c5 c6 c7 c8 d0 d1 d2 d3 d4 d5 d6 d7 d8 f1 Mw hrun;have HQW:Hid (W4.ownsRow W3.heap.size 43 4 (.slice ar n.reqs.length cr) n.reqs.length (GR.flat aJ n.reqs)):=dB hrow afm (fun x hx=>by have:x=w.heap.size+2:=(by simpa using hx);omega);clear hrow;obtain⟨c0,c1,c2,c3,c4,c5,c6,c7,c8⟩:=nine vO;have ad4:=aA vO;have UL:=aA N7;obtain⟨d0,d1,d2,d3,d4,d5,d6,d7,d8⟩:=nine N7;have f6:=aj N7 6;go_upto_region 7 with fail;refine wp_at (fun Z hZ=>?_);have Yp:(W4.setCell ⟨w.heap.size+2,6,none⟩ (.slice (some ⟨W4.heap.size,0,none⟩) 0 0)).heap.size=W4.heap.size:=by simp[World.setCell]
 have hZo:Z.ownsRow W4.heap.size 57 3 (.slice (some ⟨W4.heap.size,0,none⟩) 0 0) 0 []:=by
  have hlit:=World.ownsRow_lit (base:=W4.heap.size) (e:=57) (size:=3) (W4.setCell ⟨w.heap.size+2,6,none⟩ (.slice (some ⟨W4.heap.size,0,none⟩) 0 0)) #[] 0 (by rw [Yp];exact Nat.le_refl _) (by unfold maxLen;omega) (by simp);rw [Yp] at hlit;rw [hZ];exact hlit
 have hZk:aC [w.heap.size+2] W4 Z:=by rw [hZ];exact(aC.set _).trans (aC.of_below (ay _ _))
 have hZb:Z.heap[w.heap.size+2]?=some (.cells #[.int .i64 n.id,.int .i64 n.par,.slice ak n.kids.length ck,.int .i64 n.next,.slice ap n.pu.length cp,.slice ao n.out.length co,.slice (some ⟨W4.heap.size,0,none⟩) 0 0,.int .i64 n.old,.slice ar n.reqs.length cr] 30 (0,0)):=by
  rw [hZ];exact(Below.heap_alloc _ _ _ (by rw [Yp];exact UL)).trans (mV N7)
 have HZF:=hide (And.intro hZo (And.intro hZk hZb));clear hZ Yp hZo hZk hZb c0 c1 c2 c3 c4 c5 c6 c7 c8 d0 d1 d2 d3 d4 d5 d6 d7 d8 f6;go_wp2_with fail;go_loopw [4] (fun i wr=>∃(k:Nat) (T2:List R3) (I:Nat→Nat) (a:Option Addr) (cs:Nat),k≤n.seen.length∧i= .int .i64 k∧SM W4 wr (w.heap.size+2) k n.seen T2 I a cs∧wr.heap[w.heap.size+2]?=some (.cells #[.int .i64 n.id,.int .i64 n.par,.slice ak n.kids.length ck,.int .i64 n.next,.slice ap n.pu.length cp,.slice ao n.out.length co,.slice a k cs,.int .i64 n.old,.slice ar n.reqs.length cr] 30 (0,0))) (fun i _=>n.seen.length - (intOf i).toNat)
 case atStart=>
  exact⟨0,[],fun _=>0,some ⟨W4.heap.size,0,none⟩,0,Nat.zero_le _,rfl,⟨rfl,HZF.1,fun i hi h=>by omega,fun i j _ _ _ h=>by omega,HZF.2.1⟩,HZF.2.2⟩
 case' round=>
  obtain⟨k,T2,I,a,cs,hk,rfl,hsm,arQ⟩:=hrel
  have Rb:=hide hsm
  have HOB:=hide arQ
  have Ld:=hide (hsm.kp.obj vO (by simp))
  have LH:=hide (hsm.kp.obj N9 (by simp))
  have Ru:=hide (AJ.trans (hsm.kp.below (fun x hx=>by have:x=w.heap.size+2:=(by simpa using hx);omega) AJ.size))
  have avU:=hsm.kp.size
  clear hsm arQ
  obtain⟨c0,c1,c2,c3,c4,c5,c6,c7,c8⟩:=nine Ld
  have hnr:=aA Ld
  by_cases hlt:k < n.seen.length
  case' pos=>
   have Jm:(k:Int) < (n.seen.length:Int):=by omega
   obtain⟨g,off,b,cc,e0,hg,q0,q1,q2,hIb⟩:=kU.below HA.s Ru k hlt
   have HSN:=hide (fun x y a2 c2 gi b cc hx hi hlt2 ho hg hw=>SM.next (x:=x) (y:=y) (a2:=a2) (c2:=c2) (gi:=gi) (b:=b) (cc:=cc) Rb hlt UL hx hi hlt2 ho hg hw)
   have hil:=HZ.sk _ (List.getElem_mem hlt)
   have HIB:=hide hIb
   rw [e0] at c6
   clear hIb e0
   generalize n.seen[k]=s0 at *
   obtain⟨sf,sl,ids⟩:=s0
   dsimp only at q0 q1 q2 HSN HIB hil
   go_upto_region 11 with fail
   refine wp_at (fun X1 hX=>?_)
   have e1:X1.heap[wr.heap.size]?=some (.cells #[.int .i64 sf,.int .i64 sl,.slice b ids.length cc] 57 (0,0)):=by rw [hX];exact heap_alloc_new _ _
   have e2:Below wr.heap.size wr X1:=by rw [hX];exact ay _ _
   have E1:=hide e1
   have E2:=hide e2
   have Yq:=aA e1
   obtain⟨s0,s1,s2⟩:=three e1
   clear hX e1 e2 q0 q1 q2 c0 c1 c2 c3 c4 c5 c6 c7 c8
   obtain⟨i0,hi,hz0,hz1,hz2⟩:=info_parts qA
   obtain⟨b2,Jb,y2,hrun,hrow,hby,hq0⟩:=Dn (P:=Tryz.prog) (enc:=aP) aN (by omega) X1 24 3 i0 (.int .i64 0) 8 Tryz.underlying24 hi hz0 hz1 hz2 rfl b ids cc (GR.At.below HIB E2) (by intro u hu;rw [Bh] at hu;obtain⟨z,_,rfl⟩:=List.mem_map.1 hu;rfl) (by unfold maxLen;omega) (by omega)
   have hE3:=au E1 hby
   have f2:=aj hE3 2
   have hl3:=aA hE3
   obtain⟨t0,t1,t2⟩:=three hE3
   have HE3:=hide hE3
   have NC:=hide hby
   clear hi hz0 hz1 hz2 hby hE3
   go_upto_region 12 with(at_builtin;refine eX rfl _ _ 24 rfl _ _ rfl rfl _ _ (hrun _) ?_)
   refine wp_at (fun X2 hX=>?_)
   have e3:X2.heap[wr.heap.size]?=some (.cells #[.int .i64 sf,.int .i64 sl,.slice b2 ids.length Jb] 57 (0,0)):=by rw [hX];exact bg HE3 2 (.slice b2 ids.length Jb)
   have e4:Below wr.heap.size wr X2:=by
    rw [hX];exact(E2.trans (NC.mono E2.size)).setCell (p:=⟨wr.heap.size,2,none⟩) (Nat.le_refl _) _
   have hv2:aC [wr.heap.size] y2 X2:=by rw [hX];exact aC.set _
   obtain⟨_,_,g2,e5,hW2,hg2,_⟩:=GR.W.of_own (enc:=aP) aN hrow
   cases e5
   have hW3:=(WO.of_own hW2 hrow hq0).keeps hv2 (fun z hz=>by have:=(hg2 z hz).1;simp;omega)
   have hg3:∀z∈fp g2 ids,wr.heap.size≤z∧z < X2.heap.size:=fun z hz=>⟨by have:=(hg2 z hz).1;omega,Nat.lt_of_lt_of_le (hg2 z hz).2 hv2.size⟩
   clear hX hq0 hrow hW2 hg2 hv2 s0 s1 s2 t0 t1 t2 f2 hl3 hrun
   have Ah:=hide (au HOB e4)
   obtain⟨c0,c1,c2,c3,c4,c5,c6,c7,c8⟩:=nine Ah
   have hl4:=aA Ah
   obtain⟨s0,s1,s2⟩:=three e3
   have hl5:=aA e3
   obtain⟨i0,hi,hz0,hz1,hz2⟩:=info_parts BD
   have arO:=Rb.len
   have hown3:=GR.own_below Rb.own (e4.trans ((ay X2 (.cells #[.int .i64 sf,.int .i64 sl,.slice b2 ids.length Jb] 57)).mono e4.size))
   have hblk:GR.Blk dD 57 (X2.alloc (.cells #[.int .i64 sf,.int .i64 sl,.slice b2 ids.length Jb] 57)) X2.heap.size [⟨sf,sl,.slice b2 ids.length Jb⟩]:=heap_alloc_new X2 _
   obtain⟨v6,y6,arV,hown6,qy,hw6⟩:=eH (P:=Tryz.prog) (enc:=dD) bC (by omega) (X2.alloc (.cells #[.int .i64 sf,.int .i64 sl,.slice b2 ids.length Jb] 57)) W4.heap.size 27 27 57 i0 (.agg #[.int .i64 0,.int .i64 0,.slice none 0 0]) 40 Tryz.underlying27 hi hz0 hz1 hz2 rfl (.slice a k cs) k (GR.flat dD T2) hown3 (some ⟨X2.heap.size,0,none⟩) [⟨sf,sl,.slice b2 ids.length Jb⟩] 1 (hblk.at bC) (by intro u hu;rw [GR.flat_one] at hu;simp only[dD,List.mem_cons,List.not_mem_nil,or_false] at hu;rcases hu with rfl|rfl|rfl<;>rfl) (by unfold maxLen;simp;omega) (by simp;omega) (by have:=e4.size;simp;omega)
   rw [GR.flat_one] at hown6
   have hform:∃a6 c6,v6= .slice a6 (k+1) c6:=by
    have h6:=hown6;rw [←GR.flat_one (enc:=dD),←GR.flat_append] at h6;have hl6:(T2++[(⟨sf,sl,.slice b2 ids.length Jb⟩:R3)]).length=k+1:=by simp[arO]
    have h7:y6.ownsRow W4.heap.size 57 3 v6 (T2++[(⟨sf,sl,.slice b2 ids.length Jb⟩:R3)]).length (GR.flat dD (T2++[⟨sf,sl,.slice b2 ids.length Jb⟩])):=by rw [hl6];exact h6
    obtain⟨a6,c6',e6,_⟩:=GR.own_at (enc:=dD) (sz:=3) bC h7;rw [hl6] at e6;exact⟨a6,c6',e6⟩
   obtain⟨a6,cc6,rfl⟩:=hform
   have UK:y6.heap[w.heap.size+2]?=some (.cells #[.int .i64 n.id,.int .i64 n.par,.slice ak n.kids.length ck,.int .i64 n.next,.slice ap n.pu.length cp,.slice ao n.out.length co,.slice a k cs,.int .i64 n.old,.slice ar n.reqs.length cr] 30 (0,0)):=by
    rw [qy.block _ (by simp;omega) (fun e=>by have:=((ah Rb).own.lt _ e.symm).1;omega)];exact au Ah (ay X2 _)
   have asl:=hide (HSN (X2.alloc (.cells #[.int .i64 sf,.int .i64 sl,.slice b2 ids.length Jb] 57)) y6 a6 cc6 g2 b2 Jb (e4.trans ((ay X2 _).mono e4.size)) (hW3.below (ay X2 _)) (fun z hz=>⟨(hg3 z hz).1,by have:=(hg3 z hz).2;simp;omega⟩) hown6 qy hw6)
   have asq:=hide UK
   obtain⟨d0,d1,d2,d3,d4,d5,d6,d7,d8⟩:=nine UK
   have f6:=aj UK 6
   have hl6:=aA UK
   clear hi hz0 hz1 hz2 hown3 hblk hown6 qy hw6 UK HSN hW3 hg3 e3 e4
   go_wp2_with (at_builtin;refine eX rfl _ _ 27 rfl _ _ rfl rfl _ _ arV ?_)
   go_roundw
   case rel=>
    exact⟨k+1,_,_,a6,cc6,by omega,by go_num,asl,mV asq⟩
   case measure=>simp[intOf];omega
  have hke:k=n.seen.length:=by omega
  subst hke
  have hnlt:decide ((n.seen.length:Int) < (n.seen.length:Int))=false:=by simp
  go_upto_region 13 with fail
  refine wp_at (fun W5 hWW=>?_)
  subst hWW
  obtain⟨gs,hsn⟩:=Rb.done
  have HSN:=hide hsn
  have Ed:=hide Rb.kp
  clear hsn Rb c0 c1 c2 c3 c4 c5 c6 c7 c8
 obtain⟨c0,c1,c2,c3,c4,c5,c6,c7,c8⟩:=nine HOB;obtain⟨d0,d1,d2,d3,d4,d5,d6,d7,d8⟩:=nine LH;have f0:=aj LH 0;have f1:=aj LH 1;have f2:=aj LH 2;have f3:=aj LH 3;have f4:=aj LH 4;have f5:=aj LH 5;have f6:=aj LH 6;have f7:=aj LH 7;have f8:=aj LH 8;have avc:=aA HOB;have avn:=aA LH;go_wp2_with fail;refine aR (fun W' hW'=>?_)
 have e4:W'.heap[w.heap.size+1]?=some (.cells #[.int .i64 n.id,.int .i64 n.par,.slice ak n.kids.length ck,.int .i64 n.next,.slice ap n.pu.length cp,.slice ao n.out.length co,.slice a n.seen.length cs,.int .i64 n.old,.slice ar n.reqs.length cr] 30 (0,0)):=by
  rw [hW'];exact GR.setW_blk [.int .i64 n.id,.int .i64 n.par,.slice ak n.kids.length ck,.int .i64 n.next,.slice ap n.pu.length cp,.slice ao n.out.length co,.slice a n.seen.length cs,.int .i64 n.old,.slice ar n.reqs.length cr] (o:=0) (xs:=[.int .i64 0,.int .i64 0,.slice none 0 0,.int .i64 0,.slice none 0 0,.slice none 0 0,.slice none 0 0,.int .i64 0,.slice none 0 0]) LH
 have hso:∀x,x≠w.heap.size+1→W'.heap[x]?=W5.heap[x]?:=fun x hx=>by
  rw [hW']
  exact GR.setW_other hx [.int .i64 n.id,.int .i64 n.par,.slice ak n.kids.length ck,.int .i64 n.next,.slice ap n.pu.length cp,.slice ao n.out.length co,.slice a n.seen.length cs,.int .i64 n.old,.slice ar n.reqs.length cr] (o:=0)
 have hsz:W5.heap.size=W'.heap.size:=by rw [hW'];simp[World.setCell]
 have HBE:Hid (Below w.heap.size w W'):=by
  rw [hW'];exact GR.setW_below (by omega) [.int .i64 n.id,.int .i64 n.par,.slice ak n.kids.length ck,.int .i64 n.next,.slice ap n.pu.length cp,.slice ao n.out.length co,.slice a n.seen.length cs,.int .i64 n.old,.slice ar n.reqs.length cr] (o:=0) Ru
 clear hW' c0 c1 c2 c3 c4 c5 c6 c7 c8 d0 d1 d2 d3 d4 d5 d6 d7 d8 f0 f1 f2 f3 f4 f5 f6 f7 f8;obtain⟨c0,c1,c2,c3,c4,c5,c6,c7,c8⟩:=nine e4;have k0:=Ie.size;have k1:=Ea.size;have k2:=Eb.size;have k3:=Ec.size;have k4:=Ed.size;have b4:∀x,w.heap.size+2 < x→x < W4.heap.size→W'.heap[x]?=W4.heap[x]?:=fun x h1 h2=>(hso x (by omega)).trans (Ed.block x h2 (by simp;omega))
 have b3:∀x,w.heap.size+2 < x→x < W3.heap.size→W'.heap[x]?=W3.heap[x]?:=fun x h1 h2=>(b4 x h1 (by omega)).trans (Ec.block x h2 (by simp;omega))
 have b2:∀x,w.heap.size+2 < x→x < W2.heap.size→W'.heap[x]?=W2.heap[x]?:=fun x h1 h2=>(b3 x h1 (by omega)).trans (Eb.block x h2 (by simp;omega))
 have b1:∀x,w.heap.size+2 < x→x < W1.heap.size→W'.heap[x]?=W1.heap[x]?:=fun x h1 h2=>(b2 x h1 (by omega)).trans (Ea.block x h2 (by simp;omega))
 have oK:=HKW.lt;have oP:=Cu.lt;have oO:=HOW.lt;have oQ:=HQW.lt;obtain⟨sw,sg,si,snd⟩:=ah HSN;have hkW:=jk HKW (w':=W') (fun x hx=>b1 x (by have:=oK x hx;omega) (oK x hx).2);have hpW:=jk Cu (w':=W') (fun x hx=>b2 x (by have:=oP x hx;omega) (oP x hx).2);obtain⟨_,_,gk,ek,hWk,_,hok⟩:=GR.W.of_own (enc:=aP) aN hkW;cases ek
 obtain⟨_,_,gp,ep,hWp,_,hop⟩:=GR.W.of_own (enc:=eG) aV hpW;cases ep
 have hSQ:=lJ.blocks (w':=W') sw (by omega) (fun x hx=>hso x (by have:=sg x hx;omega)) (fun x hx=>hso x (by have:=si x hx;omega))
 have l7:Hid (NQ W' w.heap.size n ⟨ak,ap,ao,a,ar,ck,cp,co,cs,cr⟩ ⟨gk,gp,0,gs,0,I⟩ (zx W0.heap.size W1.heap.size W2.heap.size W3.heap.size W4.heap.size gs)):=by
  refine⟨⟨hWk,hWp,iQ (jk HOW (fun x hx=>b3 x (by have:=oO x hx;omega) (oO x hx).2)) (by omega),hSQ.w,iQ (jk HQW (fun x hx=>b4 x (by have:=oQ x hx;omega) (oQ x hx).2)) (by omega),fun x hx=>?_,fun x hx=>?_,fun x hx=>?_,fun x hx=>?_,fun x hx=>?_,fun x hx=>?_,fun x hx=>?_,snd⟩,hSQ⟩
  ·unfold zx;rw [if_pos (by omega)]
  ·have:=oK x (hok x hx);unfold zx;rw [if_neg (by omega),if_pos (by omega)]
  ·have:=oP x (hop x hx);unfold zx;rw [if_neg (by omega),if_neg (by omega),if_pos (by omega)]
  ·have:=oO x hx;unfold zx;rw [if_neg (by omega),if_neg (by omega),if_neg (by omega),if_pos (by omega)]
  ·have:=sg x hx;have e:=(fD hx).1;unfold zx;rw [if_neg (by omega),if_neg (by omega),if_neg (by omega),if_neg (by omega),if_neg (by omega),if_pos e]
  ·have h1:=si x hx;have e:x≠gs:=fun e=>h1.2.2 (by rw [e];exact dz (by obtain⟨i,hi,_⟩:=qJ hx;omega));unfold zx;rw [if_neg (by omega),if_neg (by omega),if_neg (by omega),if_neg (by omega),if_neg (by omega),if_neg e]
  ·have:=oQ x hx;unfold zx;rw [if_neg (by omega),if_neg (by omega),if_neg (by omega),if_neg (by omega),if_pos (by omega)]
 clear e4 hSQ hso b4 b3 b2 b1 oK oP oO oQ sw sg si snd hkW hpW hWk hWp hok hop;exact bodyPost_ret (v:= .agg #[.int .i64 n.id,.int .i64 n.par,.slice ak n.kids.length ck,.int .i64 n.next,.slice ap n.pu.length cp,.slice ao n.out.length co,.slice a n.seen.length cs,.int .i64 n.old,.slice ar n.reqs.length cr]) (by simp[results,Tryz.results58,go_sem,c0,c1,c2,c3,c4,c5,c6,c7,c8]) rfl ⟨⟨ak,ap,ao,a,ar,ck,cp,co,cs,cr⟩,_,_,rfl,l7,HBE,HPS.1,HPS.2,HRS⟩
set_option maxHeartbeats 2000000
theorem own_lower {w:World} {b b':Nat} {e:TypeId} {sz:Nat} {v:Value} {n:Nat} {xs:List Value} (h:w.ownsRow b e sz v n xs) (hb:b'≤b):w.ownsRow b' e sz v n xs:=by
 exact abN
theorem JN (a:Option Addr) (cap:Nat) (l:List Pu) (p:Pu) (n:Int) (w:World) (hl:l.length≤1048600) (hk:∀p∈l,p.k.size≤maxLen) (hn:a=none→l.length=0∧cap=0) (ha:aH w a l) (hno:iB l=false∨¬(1≤n∧n≤1000000000)):
 Calls Tryz.prog 90 #[.slice a l.length cap,wY p,.int .i64 n] w fun e w'=>∃v,e= .returned (.tuple #[v,.bool false])∧v≠ .slice none 0 0∧w'.ownsRow w.heap.size 84 4 v l.length (GR.flat eG l)∧Below w.heap.size w w':=by
 have mg:=hide (fun w1 (h:aH w1 a l)=>jC a cap l w1 hl hk h);have Ls:=hide (fun w1 (h:aH w1 a l)=>wK a cap l w1 hl hn h);have HA:=hide ha;clear ha hk hn;obtain⟨pk,pm,pf,ps⟩:=p;go_enter Tryz.func90,Tryz.ntmps90
 go_wp2_with fail;refine(mg _ (GR.At.below HA (dA w _))).mono ?_;rintro e w1 ⟨rfl,hb1⟩;have HB1:=hide ((dA w _).trans (hb1.mono (dA w _).size));clear hb1;cases hok:iB l with
 |false=>
  go_wp2_with fail
  refine(Ls _ (GR.At.below HA HB1)).mono ?_
  rintro e w2 ⟨v,rfl,hnn,hrow,hb2⟩
  have WE:=hide hnn
  have HR:=hide (own_lower hrow HB1.size)
  have HB2:=hide (HB1.trans (hb2.mono HB1.size))
  clear hrow hb2 hnn
  go_wp2_with fail
  refine bodyPost_ret (v:= .tuple #[v,.bool false]) (by simp[results,Tryz.results90,go_sem]) rfl ⟨v,rfl,WE,HR,HB2⟩
 |true=>
  have hn2:decide (tC n 1 1000000000)=false:=decide_eq_false (by rcases hno with h|h;(rw [hok] at h;cases h);exact h)
  go_wp2_with fail
  refine(F9 _ _ _ _).mono ?_
  rintro e w3 ⟨rfl,rfl⟩
  rw [hn2]
  go_wp2_with fail
  refine(Ls _ (GR.At.below HA HB1)).mono ?_
  rintro e w2 ⟨v,rfl,hnn,hrow,hb2⟩
  have WE:=hide hnn
  have HR:=hide (own_lower hrow HB1.size)
  have HB2:=hide (HB1.trans (hb2.mono HB1.size))
  clear hrow hb2 hnn
  go_wp2_with fail
  refine bodyPost_ret (v:= .tuple #[v,.bool false]) (by simp[results,Tryz.results90,go_sem]) rfl ⟨v,rfl,WE,HR,HB2⟩
theorem Wp (f:Pu→Bool):∀(l:List Pu) (k:Nat),k≤l.length→(∀q∈l.take k,f q=true)→(∀h:k < l.length,f l[k]=false)→l.takeWhile f=l.take k∧l.dropWhile f=l.drop k:=by
 intro l;induction l with
 |nil=>intro k hk _ _;simp
 |cons x r ih=>
  intro k hk h1 h2
  cases k with
  |zero=>
   have hx:f x=false:=h2 (by simp)
   simp[hx]
  |succ k=>
   have hx:f x=true:=h1 x (by simp)
   obtain⟨g1,g2⟩:=ih k (by simpa using hk) (fun q hq=>h1 q (by simp[hq])) (fun h=>h2 (by simpa using h))
   simp[hx,g1,g2]
end Go.Proofs.YtfmdndhliinhpaaGreatDoor
