/- Parts. -/
import Derived.Test.YtacgbldlonoaaaaGreatDoorRa28
namespace Go.Proofs.YtacgbldlonoaaaaGreatDoor
set_option maxHeartbeats 8000000
set_option maxRecDepth 100000
open Go.RowKit
open Mth
theorem Sw (a:Option Addr) (cap:Nat) (l:List Pu) (w:World) (hl:l.length≤1048600) (ha:aH w a l):
 Calls Tryz.prog 114 #[.slice a l.length cap] w fun e w'=>∃a' c',e= .returned (.slice a' l.length c')∧w'.ownsRow w.heap.size 143 4 (.slice a' l.length c') l.length (GR.flat eG l)∧Below w.heap.size w w'∧(∃g,a'=some ⟨g,0,none⟩)∧l.length≤c':=by
 obtain⟨i0,hi,hz0,hz1,hz2⟩:=info_parts zL;obtain⟨a',c',y,hrun,hrow,hby,hsm⟩:=run_copy_row (P:=Tryz.prog) (enc:=eG) aZ (by omega) w 25 143 i0 (.agg #[.string ByteArray.empty,.int .i64 0,.int .i64 0,.int .i64 0]) 40 Tryz.underlying25 hi hz0 hz1 hz2 rfl a l cap ha (uV l) (by unfold maxLen;omega) (by omega);have HR:=hide hrow;have HB:=hide hby;have Pf:=hide hsm;clear ha hi hz0 hz1 hz2 hrow hby hsm;go_enter Tryz.func114,Tryz.ntmps114
 go_wp2_with (at_builtin;refine fA rfl _ _ 25 rfl _ _ rfl rfl _ _ (hrun _) ?_)
 go_ret;exact⟨a',c',rfl,HR,HB,Pf⟩
def xX (s0 s1 s2 s3 s4 gs x:Nat):Nat:=if x < s0 then 0 else if x < s1 then 1 else if x < s2 then 2 else if x < s3 then 3 else if x < s4 then 6 else if x=gs then 4 else 5
structure SM (W4 wr:World) (ob k:Nat) (l:List Sn) (T2:List R3) (I:Nat→Nat) (a:Option Addr) (cs:Nat):Prop where
 len:T2.length=k
 own:wr.ownsRow W4.heap.size 90 3 (.slice a k cs) k (GR.flat cu T2)
 dn:∀i (hi:i < l.length),i < k→∃b c,T2[i]?=some ⟨l[i].f,l[i].l,.slice b l[i].ids.length c⟩∧WO wr b c (I i) l[i].ids∧∀x∈fp (I i) l[i].ids,W4.heap.size≤x∧x < wr.heap.size∧(Value.slice a k cs).ownBlock≠some x
 nd:∀i j (hi:i < l.length) (hj:j < l.length),i < j→j < k→0 < l[i].ids.length→0 < l[j].ids.length→I i≠I j
 kp:aC [ob] W4 wr
theorem SM.next {W4 wr x y:World} {ob k:Nat} {l:List Sn} {T2:List R3} {I:Nat→Nat} {a a2:Option Addr} {cs c2 gi cc:Nat} {b:Option Addr} (h:SM W4 wr ob k l T2 I a cs) (hk:k < l.length) (hob:ob < W4.heap.size) (hx:Below wr.heap.size wr x)
 (hi:WO x b cc gi l[k].ids) (hlt:∀z∈fp gi l[k].ids,wr.heap.size≤z∧z < x.heap.size)
 (ho:y.ownsRow W4.heap.size 90 3 (.slice a2 (k+1) c2) (k+1) (GR.flat cu T2++cu ⟨l[k].f,l[k].l,.slice b l[k].ids.length cc⟩)) (hg:x.grownBy y (Value.slice a k cs).ownBlock) (hw:∀z,(Value.slice a2 (k+1) c2).ownBlock=some z→(Value.slice a k cs).ownBlock=some z∨x.heap.size≤z):
 SM W4 (y.setCell ⟨ob,6,none⟩ (.slice a2 (k+1) c2)) ob (k+1) l (T2++[⟨l[k].f,l[k].l,.slice b l[k].ids.length cc⟩]) (fun i=>if i=k then gi else I i) a2 c2:=by
 have hs:y.heap.size=(y.setCell ⟨ob,6,none⟩ (.slice a2 (k+1) c2)).heap.size:=by simp[World.setCell]
 have hkp:aC [ob] y (y.setCell ⟨ob,6,none⟩ (.slice a2 (k+1) c2)):=aC.set _;have hx1:=hx.size;have hx2:=hg.size;have hx3:=h.kp.size;have hoo:=h.own.lt;have hxy:aC (Value.slice a k cs).ownBlock.toList x y:=⟨hg.os,hg.tape,hg.output,hg.size,fun z hz hne=>hg.block z hz (fun e=>hne (by rw [←e];simp))⟩;refine⟨by simp[h.len],?_,fun i hi' hik=>?_,fun i j hi' hj hij hjk h1 h2=>?_,?_⟩
 ·rw [GR.flat_append,GR.flat_one];exact cK ho hkp (fun z hz=>by have:z=ob:=(by simpa using hz);omega)
 ·by_cases e:i=k
  ·subst e;refine⟨b,cc,by rw [List.getElem?_append_right (by rw [h.len];exact Nat.le_refl _),h.len];simp,?_,?_⟩
   ·rw [if_pos rfl];refine(hi.keeps hxy (fun z hz hm=>?_)).keeps hkp (fun z hz hm=>?_)
    ·have h1:(Value.slice a i cs).ownBlock=some z:=by simpa using hm
     have:=(hoo z h1).2;have:=(hlt z hz).1;omega
    ·have:=(hlt z hz).1;have:z=ob:=(by simpa using hm);omega
   ·rw [if_pos rfl];refine fun z hz=>⟨by have:=(hlt z hz).1;omega,by rw [←hs];have:=(hlt z hz).2;omega,fun e2=>?_⟩
    rcases hw z e2 with h1|h1
    ·have:=(hoo z h1).2;have:=(hlt z hz).1;omega
    ·have:=(hlt z hz).2;omega
  ·obtain⟨b',c',e1,e2,e3⟩:=h.dn i hi' (by omega);refine⟨b',c',by rw [List.getElem?_append_left (by rw [h.len];omega)];exact e1,?_,?_⟩
   ·rw [if_neg e];refine((e2.below hx).keeps hxy (fun z hz hm=>?_)).keeps hkp (fun z hz hm=>?_)
    ·exact(e3 z hz).2.2 (by simpa using hm)
    ·have:=(e3 z hz).1;have:z=ob:=(by simpa using hm);omega
   ·rw [if_neg e];refine fun z hz=>⟨(e3 z hz).1,by rw [←hs];have:=(e3 z hz).2.1;omega,fun e4=>?_⟩
    rcases hw z e4 with h1|h1
    ·exact(e3 z hz).2.2 h1
    ·have:=(e3 z hz).2.1;omega
 ·by_cases ej:j=k
  ·subst ej;rw [if_neg (by omega),if_pos rfl];obtain⟨_,_,_,_,e3⟩:=h.dn i hi' (by omega);have q1:=(e3 (I i) (dz h1)).2.1;have q2:=(hlt gi (dz h2)).1;omega
  ·exact ZL
 ·refine⟨hg.os.trans (hx.os.trans h.kp.os),hg.tape.trans (hx.tape.trans h.kp.tape),hg.output.trans (hx.output.trans h.kp.output),by rw [←hs];omega,fun z hz hm=>?_⟩;have hne:z≠ob:=by simpa using hm
  rw [Below.heap_setCell _ _ _ _ hne,hg.block z (by omega) (fun e=>by have:=(hoo z e.symm).1;omega),hx.block z (by omega)];exact h.kp.block z hz hm
theorem SM.done {W4 wr:World} {ob:Nat} {l:List Sn} {T2:List R3} {I:Nat→Nat} {a:Option Addr} {cs:Nat} (h:SM W4 wr ob l.length l T2 I a cs):∃g,lJ wr a g I l∧(∀x∈fp g l,W4.heap.size≤x)∧(∀x∈nM I l,W4.heap.size≤x∧x < wr.heap.size∧x∉fp g l)∧(nM I l).Nodup:=by
 open ajx in exact X9
theorem EP (n:Nd) (A:bE) (w:World) (hz:eH n 1048576) (ha:dQ w A n):
 Calls Tryz.prog 37 #[gu n A] w fun e w'=>∃A' G' c',e= .returned (gu n A')∧NQ w' w.heap.size n A' G' c'∧Below w.heap.size w w'∧(∃g,A'.p=some ⟨g,0,none⟩)∧n.pu.length≤A'.cp∧(∃g,A'.r=some ⟨g,0,none⟩)∧n.reqs.length≤A'.cr:=by
 have HZ:=hide hz;have HA:=hide ha;have hlk:=hz.k;have hlp:=hz.p;have hlo:=hz.o;have hls:=hz.s;have hlr:=hz.r;clear hz ha;go_enter Tryz.func37,Tryz.ntmps37
 go_upto_region 2 with fail;refine wp_at (fun W0 hW=>?_);obtain⟨e1,e2,e3,e4⟩:=eT w (.cells (fZ n A) 30) (.cells iO 30) (.cells (fZ n A) 30);rw [←hW] at e1 e2 e3 e4;have rY:=hide e1;have F7:=hide e2;have CF:=hide e3;have yT:=hide e4;have hsz0:=aA e3;clear hW e1 e2 e3 e4;obtain⟨c0,c1,c2,c3,c4,c5,c6,c7,c8⟩:=nine rY;have abt:=aA rY;have aqO:=aA CF;obtain⟨i0,hi,hz0,hz1,hz2⟩:=info_parts vD;obtain⟨ak,ck,arf,hrun,hrow,hby,_⟩:=run_copy_row (P:=Tryz.prog) (enc:=aR) aN (by omega) W0 24 3 i0 (.int .i64 0) 8 Tryz.underlying24 hi hz0 hz1 hz2 rfl A.k n.kids A.ck (GR.At.below HA.k yT) (by intro u hu;rw [zx] at hu;obtain⟨z,_,rfl⟩:=List.mem_map.1 hu;rfl) (by unfold maxLen;omega) (by omega);clear hi hz0 hz1 hz2;have uO:=hide hby;obtain⟨d0,d1,d2,d3,d4,d5,d6,d7,d8⟩:=nine (aj CF hby);have f1:=ay (aj CF hby) 2;have J7:=aA (aj CF hby);clear hby;go_upto_region 3 with(at_builtin;refine fA rfl _ _ 24 rfl _ _ rfl rfl _ _ (hrun _) ?_)
 refine wp_at (fun W1 hW=>?_);have Ro:=aj CF uO;have rZ:Hid (W1.heap[w.heap.size]?=some (.cells (fZ n A) 30 (0,0))):=by rw [hW];exact(Below.heap_setCell _ _ _ _ (show w.heap.size≠w.heap.size+2 by omega)).trans (aj rY uO)
 have F8:Hid (W1.heap[w.heap.size+1]?=some (.cells iO 30 (0,0))):=by rw [hW];exact(Below.heap_setCell _ _ _ _ (show w.heap.size+1≠w.heap.size+2 by omega)).trans (aj F7 uO)
 have CG:Hid (W1.heap[w.heap.size+2]?=some (.cells #[.int .i64 n.id,.int .i64 n.par,.slice ak n.kids.length ck,.int .i64 n.next,.slice A.p n.pu.length A.cp,.slice A.o n.out.length A.co,.slice A.s n.seen.length A.cs,.int .i64 n.old,.slice A.r n.reqs.length A.cr] 30 (0,0))):=by rw [hW];exact lM Ro
 have yU:Hid (Below w.heap.size w W1):=by rw [hW];exact oL (by omega) (yT.trans (uO.mono yT.size))
 have FM:Hid (aC [w.heap.size+2] W0 W1):=by rw [hW];exact oZ uO
 have Lu:Hid (aC [w.heap.size+2] arf W1):=by rw [hW];exact aC.set _
 clear hW Ro rY F7 CF;clear c0 c1 c2 c3 c4 c5 c6 c7 c8 d0 d1 d2 d3 d4 d5 d6 d7 d8 f1 J7 hrun;have Ur:Hid (W1.ownsRow W0.heap.size 3 1 (.slice ak n.kids.length ck) n.kids.length (GR.flat aR n.kids)):=cK hrow Lu (fun x hx=>by have:x=w.heap.size+2:=(by simpa using hx);omega);clear hrow;obtain⟨c0,c1,c2,c3,c4,c5,c6,c7,c8⟩:=nine rZ;have abu:=aA rZ;have aqP:=aA CG;go_wp2_with fail;refine(Sw A.p A.cp n.pu W1 (by omega) (GR.At.below HA.p yU)).mono ?_;rintro e arh ⟨ap,cp,rfl,hrow,hby,hsm⟩;have HPS:=hide hsm;clear hsm;have uP:=hide hby;obtain⟨d0,d1,d2,d3,d4,d5,d6,d7,d8⟩:=nine (aj CG hby);have f1:=ay (aj CG hby) 4;have J7:=aA (aj CG hby);clear hby c0 c1 c2 c3 c4 c5 c6 c7 c8;go_upto_region 4 with fail;refine wp_at (fun W2 hW=>?_);have Ro:=aj CG uP;have su:Hid (W2.heap[w.heap.size]?=some (.cells (fZ n A) 30 (0,0))):=by rw [hW];exact(Below.heap_setCell _ _ _ _ (show w.heap.size≠w.heap.size+2 by omega)).trans (aj rZ uP)
 have F9:Hid (W2.heap[w.heap.size+1]?=some (.cells iO 30 (0,0))):=by rw [hW];exact(Below.heap_setCell _ _ _ _ (show w.heap.size+1≠w.heap.size+2 by omega)).trans (aj F8 uP)
 have CJ:Hid (W2.heap[w.heap.size+2]?=some (.cells #[.int .i64 n.id,.int .i64 n.par,.slice ak n.kids.length ck,.int .i64 n.next,.slice ap n.pu.length cp,.slice A.o n.out.length A.co,.slice A.s n.seen.length A.cs,.int .i64 n.old,.slice A.r n.reqs.length A.cr] 30 (0,0))):=by rw [hW];exact lM Ro
 have yV:Hid (Below w.heap.size w W2):=by rw [hW];exact oL (by omega) (yU.trans (uP.mono yU.size))
 have Cu:Hid (aC [w.heap.size+2] W1 W2):=by rw [hW];exact oZ uP
 have Lv:Hid (aC [w.heap.size+2] arh W2):=by rw [hW];exact aC.set _
 clear hW Ro rZ F8 CG;clear d0 d1 d2 d3 d4 d5 d6 d7 d8 f1 J7;have AR:Hid (W2.ownsRow W1.heap.size 143 4 (.slice ap n.pu.length cp) n.pu.length (GR.flat eG n.pu)):=cK hrow Lv (fun x hx=>by have:x=w.heap.size+2:=(by simpa using hx);omega);clear hrow;obtain⟨c0,c1,c2,c3,c4,c5,c6,c7,c8⟩:=nine su;have abv:=aA su;have aqQ:=aA CJ;obtain⟨i0,hi,hz0,hz1,hz2⟩:=info_parts Ht;obtain⟨ao,co,ari,hrun,hrow,hby,_⟩:=run_copy_row (P:=Tryz.prog) (enc:=aS) bH (by omega) W2 26 95 i0 (.agg #[.int .i64 0,.int .i64 0,.string ByteArray.empty,.int .i64 0]) 40 Tryz.underlying26 hi hz0 hz1 hz2 rfl A.o n.out A.co (GR.At.below HA.o yV) (xM _) (by unfold maxLen;omega) (by omega);clear hi hz0 hz1 hz2;have uQ:=hide hby;obtain⟨d0,d1,d2,d3,d4,d5,d6,d7,d8⟩:=nine (aj CJ hby);have f1:=ay (aj CJ hby) 5;have J7:=aA (aj CJ hby);clear hby;go_upto_region 5 with(at_builtin;refine fA rfl _ _ 26 rfl _ _ rfl rfl _ _ (hrun _) ?_)
 refine wp_at (fun W3 hW=>?_);have Ro:=aj CJ uQ;have sD:Hid (W3.heap[w.heap.size]?=some (.cells (fZ n A) 30 (0,0))):=by rw [hW];exact(Below.heap_setCell _ _ _ _ (show w.heap.size≠w.heap.size+2 by omega)).trans (aj su uQ)
 have Ga:Hid (W3.heap[w.heap.size+1]?=some (.cells iO 30 (0,0))):=by rw [hW];exact(Below.heap_setCell _ _ _ _ (show w.heap.size+1≠w.heap.size+2 by omega)).trans (aj F9 uQ)
 have CK:Hid (W3.heap[w.heap.size+2]?=some (.cells #[.int .i64 n.id,.int .i64 n.par,.slice ak n.kids.length ck,.int .i64 n.next,.slice ap n.pu.length cp,.slice ao n.out.length co,.slice A.s n.seen.length A.cs,.int .i64 n.old,.slice A.r n.reqs.length A.cr] 30 (0,0))):=by rw [hW];exact lM Ro
 have Cr:Hid (Below w.heap.size w W3):=by rw [hW];exact oL (by omega) (yV.trans (uQ.mono yV.size))
 have Cv:Hid (aC [w.heap.size+2] W2 W3):=by rw [hW];exact oZ uQ
 have Qj:Hid (aC [w.heap.size+2] ari W3):=by rw [hW];exact aC.set _
 clear hW Ro su F9 CJ;clear c0 c1 c2 c3 c4 c5 c6 c7 c8 d0 d1 d2 d3 d4 d5 d6 d7 d8 f1 J7 hrun;have HOW:Hid (W3.ownsRow W2.heap.size 95 4 (.slice ao n.out.length co) n.out.length (GR.flat aS n.out)):=cK hrow Qj (fun x hx=>by have:x=w.heap.size+2:=(by simpa using hx);omega);clear hrow;obtain⟨c0,c1,c2,c3,c4,c5,c6,c7,c8⟩:=nine sD;have abw:=aA sD;have aqR:=aA CK;obtain⟨i0,hi,hz0,hz1,hz2⟩:=info_parts vF;obtain⟨ar,cr,arj,hrun,hrow,hby,hsr⟩:=run_copy_row (P:=Tryz.prog) (enc:=aK) aY (by omega) W3 28 97 i0 (.agg #[.int .i64 0,.string ByteArray.empty,.int .i64 0,.int .i64 0]) 40 Tryz.underlying28 hi hz0 hz1 hz2 rfl A.r n.reqs A.cr (GR.At.below HA.r Cr) (gI _) (by unfold maxLen;omega) (by omega);clear hi hz0 hz1 hz2;have HRS:=hide hsr;clear hsr;have Gd:=hide hby;obtain⟨d0,d1,d2,d3,d4,d5,d6,d7,d8⟩:=nine (aj CK hby);have f1:=ay (aj CK hby) 8;have J7:=aA (aj CK hby);clear hby;go_upto_region 6 with(at_builtin;refine fA rfl _ _ 28 rfl _ _ rfl rfl _ _ (hrun _) ?_)
 refine wp_at (fun W4 hW=>?_);have Ro:=aj CK Gd;have uK:Hid (W4.heap[w.heap.size]?=some (.cells (fZ n A) 30 (0,0))):=by rw [hW];exact(Below.heap_setCell _ _ _ _ (show w.heap.size≠w.heap.size+2 by omega)).trans (aj sD Gd)
 have Lr:Hid (W4.heap[w.heap.size+1]?=some (.cells iO 30 (0,0))):=by rw [hW];exact(Below.heap_setCell _ _ _ _ (show w.heap.size+1≠w.heap.size+2 by omega)).trans (aj Ga Gd)
 have Ll:Hid (W4.heap[w.heap.size+2]?=some (.cells #[.int .i64 n.id,.int .i64 n.par,.slice ak n.kids.length ck,.int .i64 n.next,.slice ap n.pu.length cp,.slice ao n.out.length co,.slice A.s n.seen.length A.cs,.int .i64 n.old,.slice ar n.reqs.length cr] 30 (0,0))):=by rw [hW];exact lM Ro
 have yX:Hid (Below w.heap.size w W4):=by rw [hW];exact oL (by omega) (Cr.trans (Gd.mono Cr.size))
 have Cw:Hid (aC [w.heap.size+2] W3 W4):=by rw [hW];exact oZ Gd
 have acL:Hid (aC [w.heap.size+2] arj W4):=by rw [hW];exact aC.set _
 clear hW Ro sD Ga CK;clear c0 c1 c2 c3 c4 c5 c6 c7 c8 d0 d1 d2 d3 d4 d5 d6 d7 d8 f1 J7 hrun;have HQW:Hid (W4.ownsRow W3.heap.size 97 4 (.slice ar n.reqs.length cr) n.reqs.length (GR.flat aK n.reqs)):=cK hrow acL (fun x hx=>by have:x=w.heap.size+2:=(by simpa using hx);omega);clear hrow;obtain⟨c0,c1,c2,c3,c4,c5,c6,c7,c8⟩:=nine uK;have abx:=aA uK;have Rx:=aA Ll;obtain⟨d0,d1,d2,d3,d4,d5,d6,d7,d8⟩:=nine Ll;have f6:=ay Ll 6;go_upto_region 7 with fail;refine wp_at (fun Z hZ=>?_);have VB:(W4.setCell ⟨w.heap.size+2,6,none⟩ (.slice (some ⟨W4.heap.size,0,none⟩) 0 0)).heap.size=W4.heap.size:=by simp[World.setCell]
 have hZo:Z.ownsRow W4.heap.size 90 3 (.slice (some ⟨W4.heap.size,0,none⟩) 0 0) 0 []:=by
  have hlit:=World.ownsRow_lit (base:=W4.heap.size) (e:=90) (size:=3) (W4.setCell ⟨w.heap.size+2,6,none⟩ (.slice (some ⟨W4.heap.size,0,none⟩) 0 0)) #[] 0 (by rw [VB];exact Nat.le_refl _) (by unfold maxLen;omega) (by simp);rw [VB] at hlit;rw [hZ];exact hlit
 have hZk:aC [w.heap.size+2] W4 Z:=by rw [hZ];exact(aC.set _).trans (aC.of_below (au _ _))
 have hZb:Z.heap[w.heap.size+2]?=some (.cells #[.int .i64 n.id,.int .i64 n.par,.slice ak n.kids.length ck,.int .i64 n.next,.slice ap n.pu.length cp,.slice ao n.out.length co,.slice (some ⟨W4.heap.size,0,none⟩) 0 0,.int .i64 n.old,.slice ar n.reqs.length cr] 30 (0,0)):=by
  rw [hZ];exact(Below.heap_alloc _ _ _ (by rw [VB];exact Rx)).trans (lM Ll)
 have HZF:=hide (And.intro hZo (And.intro hZk hZb));clear hZ VB hZo hZk hZb c0 c1 c2 c3 c4 c5 c6 c7 c8 d0 d1 d2 d3 d4 d5 d6 d7 d8 f6;go_wp2_with fail;go_loopw [4] (fun i wr=>∃(k:Nat) (T2:List R3) (I:Nat→Nat) (a:Option Addr) (cs:Nat),k≤n.seen.length∧i= .int .i64 k∧SM W4 wr (w.heap.size+2) k n.seen T2 I a cs∧wr.heap[w.heap.size+2]?=some (.cells #[.int .i64 n.id,.int .i64 n.par,.slice ak n.kids.length ck,.int .i64 n.next,.slice ap n.pu.length cp,.slice ao n.out.length co,.slice a k cs,.int .i64 n.old,.slice ar n.reqs.length cr] 30 (0,0))) (fun i _=>n.seen.length - (intOf i).toNat)
 case atStart=>
  exact⟨0,[],fun _=>0,some ⟨W4.heap.size,0,none⟩,0,Nat.zero_le _,rfl,⟨rfl,HZF.1,fun i hi h=>by omega,fun i j _ _ _ h=>by omega,HZF.2.1⟩,HZF.2.2⟩
 case' round=>
  obtain⟨k,T2,I,a,cs,hk,rfl,hsm,anU⟩:=hrel
  have Pf:=hide hsm
  have HOB:=hide anU
  have Jt:=hide (hsm.kp.obj uK (by simp))
  have JG:=hide (hsm.kp.obj Lr (by simp))
  have Pz:=hide (yX.trans (hsm.kp.below (fun x hx=>by have:x=w.heap.size+2:=(by simpa using hx);omega) yX.size))
  have arB:=hsm.kp.size
  clear hsm anU
  obtain⟨c0,c1,c2,c3,c4,c5,c6,c7,c8⟩:=nine Jt
  have hnr:=aA Jt
  by_cases hlt:k < n.seen.length
  case' pos=>
   have GL:(k:Int) < (n.seen.length:Int):=by omega
   obtain⟨g,off,b,cc,e0,hg,q0,q1,q2,hIb⟩:=jL.below HA.s Pz k hlt
   have HSN:=hide (fun x y a2 c2 gi b cc hx hi hlt2 ho hg hw=>SM.next (x:=x) (y:=y) (a2:=a2) (c2:=c2) (gi:=gi) (b:=b) (cc:=cc) Pf hlt Rx hx hi hlt2 ho hg hw)
   have hil:=HZ.sk _ (List.getElem_mem hlt)
   have HIB:=hide hIb
   rw [e0] at c6
   clear hIb e0
   generalize n.seen[k]=s0 at *
   obtain⟨sf,sl,ids⟩:=s0
   dsimp only at q0 q1 q2 HSN HIB hil
   go_upto_region 11 with fail
   refine wp_at (fun X1 hX=>?_)
   have e1:X1.heap[wr.heap.size]?=some (.cells #[.int .i64 sf,.int .i64 sl,.slice b ids.length cc] 90 (0,0)):=by rw [hX];exact heap_alloc_new _ _
   have e2:Below wr.heap.size wr X1:=by rw [hX];exact au _ _
   have E1:=hide e1
   have E2:=hide e2
   have VD:=aA e1
   obtain⟨s0,s1,s2⟩:=three e1
   clear hX e1 e2 q0 q1 q2 c0 c1 c2 c3 c4 c5 c6 c7 c8
   obtain⟨i0,hi,hz0,hz1,hz2⟩:=info_parts vD
   obtain⟨b2,Gt,y2,hrun,hrow,hby,hq0⟩:=BJ (P:=Tryz.prog) (enc:=aR) aN (by omega) X1 24 3 i0 (.int .i64 0) 8 Tryz.underlying24 hi hz0 hz1 hz2 rfl b ids cc (GR.At.below HIB E2) (by intro u hu;rw [zx] at hu;obtain⟨z,_,rfl⟩:=List.mem_map.1 hu;rfl) (by unfold maxLen;omega) (by omega)
   have hE3:=aj E1 hby
   have f2:=ay hE3 2
   have hl3:=aA hE3
   obtain⟨t0,t1,t2⟩:=three hE3
   have HE3:=hide hE3
   have Fv:=hide hby
   clear hi hz0 hz1 hz2 hby hE3
   go_upto_region 12 with(at_builtin;refine fA rfl _ _ 24 rfl _ _ rfl rfl _ _ (hrun _) ?_)
   refine wp_at (fun X2 hX=>?_)
   have e3:X2.heap[wr.heap.size]?=some (.cells #[.int .i64 sf,.int .i64 sl,.slice b2 ids.length Gt] 90 (0,0)):=by rw [hX];exact bg HE3 2 (.slice b2 ids.length Gt)
   have e4:Below wr.heap.size wr X2:=by
    rw [hX];exact(E2.trans (Fv.mono E2.size)).setCell (p:=⟨wr.heap.size,2,none⟩) (Nat.le_refl _) _
   have hv2:aC [wr.heap.size] y2 X2:=by rw [hX];exact aC.set _
   obtain⟨_,_,g2,e5,hW2,hg2,_⟩:=GR.W.of_own (enc:=aR) aN hrow
   cases e5
   have hW3:=(WO.of_own hW2 hrow hq0).keeps hv2 (fun z hz=>by have:=(hg2 z hz).1;simp;omega)
   have hg3:∀z∈fp g2 ids,wr.heap.size≤z∧z < X2.heap.size:=fun z hz=>⟨by have:=(hg2 z hz).1;omega,Nat.lt_of_lt_of_le (hg2 z hz).2 hv2.size⟩
   clear hX hq0 hrow hW2 hg2 hv2 s0 s1 s2 t0 t1 t2 f2 hl3 hrun
   have AQ:=hide (aj HOB e4)
   obtain⟨c0,c1,c2,c3,c4,c5,c6,c7,c8⟩:=nine AQ
   have hl4:=aA AQ
   obtain⟨s0,s1,s2⟩:=three e3
   have hl5:=aA e3
   obtain⟨i0,hi,hz0,hz1,hz2⟩:=info_parts zM
   have anS:=Pf.len
   have hown3:=GR.own_below Pf.own (e4.trans ((au X2 (.cells #[.int .i64 sf,.int .i64 sl,.slice b2 ids.length Gt] 90)).mono e4.size))
   have hblk:GR.Blk cu 90 (X2.alloc (.cells #[.int .i64 sf,.int .i64 sl,.slice b2 ids.length Gt] 90)) X2.heap.size [⟨sf,sl,.slice b2 ids.length Gt⟩]:=heap_alloc_new X2 _
   obtain⟨v6,y6,anZ,hown6,lS,hw6⟩:=dX (P:=Tryz.prog) (enc:=cu) bC (by omega) (X2.alloc (.cells #[.int .i64 sf,.int .i64 sl,.slice b2 ids.length Gt] 90)) W4.heap.size 27 27 90 i0 (.agg #[.int .i64 0,.int .i64 0,.slice none 0 0]) 40 Tryz.underlying27 hi hz0 hz1 hz2 rfl (.slice a k cs) k (GR.flat cu T2) hown3 (some ⟨X2.heap.size,0,none⟩) [⟨sf,sl,.slice b2 ids.length Gt⟩] 1 (hblk.at bC) (by intro u hu;rw [GR.flat_one] at hu;simp only[cu,List.mem_cons,List.not_mem_nil,or_false] at hu;rcases hu with rfl|rfl|rfl<;>rfl) (by unfold maxLen;simp;omega) (by simp;omega) (by have:=e4.size;simp;omega)
   rw [GR.flat_one] at hown6
   have hform:∃a6 c6,v6= .slice a6 (k+1) c6:=by
    have h6:=hown6;rw [←GR.flat_one (enc:=cu),←GR.flat_append] at h6;have hl6:(T2++[(⟨sf,sl,.slice b2 ids.length Gt⟩:R3)]).length=k+1:=by simp[anS]
    have h7:y6.ownsRow W4.heap.size 90 3 v6 (T2++[(⟨sf,sl,.slice b2 ids.length Gt⟩:R3)]).length (GR.flat cu (T2++[⟨sf,sl,.slice b2 ids.length Gt⟩])):=by rw [hl6];exact h6
    obtain⟨a6,c6',e6,_⟩:=GR.own_at (enc:=cu) (sz:=3) bC h7;rw [hl6] at e6;exact⟨a6,c6',e6⟩
   obtain⟨a6,cc6,rfl⟩:=hform
   have Rw:y6.heap[w.heap.size+2]?=some (.cells #[.int .i64 n.id,.int .i64 n.par,.slice ak n.kids.length ck,.int .i64 n.next,.slice ap n.pu.length cp,.slice ao n.out.length co,.slice a k cs,.int .i64 n.old,.slice ar n.reqs.length cr] 30 (0,0)):=by
    rw [lS.block _ (by simp;omega) (fun e=>by have:=((ah Pf).own.lt _ e.symm).1;omega)];exact aj AQ (au X2 _)
   have aoi:=hide (HSN (X2.alloc (.cells #[.int .i64 sf,.int .i64 sl,.slice b2 ids.length Gt] 90)) y6 a6 cc6 g2 b2 Gt (e4.trans ((au X2 _).mono e4.size)) (hW3.below (au X2 _)) (fun z hz=>⟨(hg3 z hz).1,by have:=(hg3 z hz).2;simp;omega⟩) hown6 lS hw6)
   have aok:=hide Rw
   obtain⟨d0,d1,d2,d3,d4,d5,d6,d7,d8⟩:=nine Rw
   have f6:=ay Rw 6
   have hl6:=aA Rw
   clear hi hz0 hz1 hz2 hown3 hblk hown6 lS hw6 Rw HSN hW3 hg3 e3 e4
   go_wp2_with (at_builtin;refine fA rfl _ _ 27 rfl _ _ rfl rfl _ _ anZ ?_)
   go_roundw
   case rel=>
    exact⟨k+1,_,_,a6,cc6,by omega,by go_num,aoi,lM aok⟩
   case measure=>simp[intOf];omega
  have hke:k=n.seen.length:=by omega
  subst hke
  have hnlt:decide ((n.seen.length:Int) < (n.seen.length:Int))=false:=by simp
  go_upto_region 13 with fail
  refine wp_at (fun W5 hWW=>?_)
  subst hWW
  obtain⟨gs,hsn⟩:=Pf.done
  have HSN:=hide hsn
  have Cz:=hide Pf.kp
  clear hsn Pf c0 c1 c2 c3 c4 c5 c6 c7 c8
 obtain⟨c0,c1,c2,c3,c4,c5,c6,c7,c8⟩:=nine HOB;obtain⟨d0,d1,d2,d3,d4,d5,d6,d7,d8⟩:=nine JG;have f0:=ay JG 0;have f1:=ay JG 1;have f2:=ay JG 2;have f3:=ay JG 3;have f4:=ay JG 4;have f5:=ay JG 5;have f6:=ay JG 6;have f7:=ay JG 7;have f8:=ay JG 8;have aqK:=aA HOB;have aqV:=aA JG;go_wp2_with fail;refine aO (fun W' hW'=>?_)
 have e4:W'.heap[w.heap.size+1]?=some (.cells #[.int .i64 n.id,.int .i64 n.par,.slice ak n.kids.length ck,.int .i64 n.next,.slice ap n.pu.length cp,.slice ao n.out.length co,.slice a n.seen.length cs,.int .i64 n.old,.slice ar n.reqs.length cr] 30 (0,0)):=by
  rw [hW'];exact GR.setW_blk [.int .i64 n.id,.int .i64 n.par,.slice ak n.kids.length ck,.int .i64 n.next,.slice ap n.pu.length cp,.slice ao n.out.length co,.slice a n.seen.length cs,.int .i64 n.old,.slice ar n.reqs.length cr] (o:=0) (xs:=[.int .i64 0,.int .i64 0,.slice none 0 0,.int .i64 0,.slice none 0 0,.slice none 0 0,.slice none 0 0,.int .i64 0,.slice none 0 0]) JG
 have hso:∀x,x≠w.heap.size+1→W'.heap[x]?=W5.heap[x]?:=fun x hx=>by
  rw [hW']
  exact GR.setW_other hx [.int .i64 n.id,.int .i64 n.par,.slice ak n.kids.length ck,.int .i64 n.next,.slice ap n.pu.length cp,.slice ao n.out.length co,.slice a n.seen.length cs,.int .i64 n.old,.slice ar n.reqs.length cr] (o:=0)
 have hsz:W5.heap.size=W'.heap.size:=by rw [hW'];simp[World.setCell]
 have HBE:Hid (Below w.heap.size w W'):=by
  rw [hW'];exact GR.setW_below (by omega) [.int .i64 n.id,.int .i64 n.par,.slice ak n.kids.length ck,.int .i64 n.next,.slice ap n.pu.length cp,.slice ao n.out.length co,.slice a n.seen.length cs,.int .i64 n.old,.slice ar n.reqs.length cr] (o:=0) Pz
 clear hW' c0 c1 c2 c3 c4 c5 c6 c7 c8 d0 d1 d2 d3 d4 d5 d6 d7 d8 f0 f1 f2 f3 f4 f5 f6 f7 f8;obtain⟨c0,c1,c2,c3,c4,c5,c6,c7,c8⟩:=nine e4;have k0:=FM.size;have k1:=Cu.size;have k2:=Cv.size;have k3:=Cw.size;have k4:=Cz.size;have b4:∀x,w.heap.size+2 < x→x < W4.heap.size→W'.heap[x]?=W4.heap[x]?:=fun x h1 h2=>(hso x (by omega)).trans (Cz.block x h2 (by simp;omega))
 have b3:∀x,w.heap.size+2 < x→x < W3.heap.size→W'.heap[x]?=W3.heap[x]?:=fun x h1 h2=>(b4 x h1 (by omega)).trans (Cw.block x h2 (by simp;omega))
 have b2:∀x,w.heap.size+2 < x→x < W2.heap.size→W'.heap[x]?=W2.heap[x]?:=fun x h1 h2=>(b3 x h1 (by omega)).trans (Cv.block x h2 (by simp;omega))
 have b1:∀x,w.heap.size+2 < x→x < W1.heap.size→W'.heap[x]?=W1.heap[x]?:=fun x h1 h2=>(b2 x h1 (by omega)).trans (Cu.block x h2 (by simp;omega))
 have oK:=Ur.lt;have oP:=AR.lt;have oO:=HOW.lt;have oQ:=HQW.lt;obtain⟨sw,sg,si,snd⟩:=ah HSN;have hkW:=iT Ur (w':=W') (fun x hx=>b1 x (by have:=oK x hx;omega) (oK x hx).2);have hpW:=iT AR (w':=W') (fun x hx=>b2 x (by have:=oP x hx;omega) (oP x hx).2);obtain⟨_,_,gk,ek,hWk,_,hok⟩:=GR.W.of_own (enc:=aR) aN hkW;cases ek
 obtain⟨_,_,gp,ep,hWp,_,hop⟩:=GR.W.of_own (enc:=eG) aZ hpW;cases ep
 have hSQ:=lJ.blocks (w':=W') sw (by omega) (fun x hx=>hso x (by have:=sg x hx;omega)) (fun x hx=>hso x (by have:=si x hx;omega))
 have jY:Hid (NQ W' w.heap.size n ⟨ak,ap,ao,a,ar,ck,cp,co,cs,cr⟩ ⟨gk,gp,0,gs,0,I⟩ (xX W0.heap.size W1.heap.size W2.heap.size W3.heap.size W4.heap.size gs)):=by
  refine⟨⟨hWk,hWp,iF (iT HOW (fun x hx=>b3 x (by have:=oO x hx;omega) (oO x hx).2)) (by omega),hSQ.w,iF (iT HQW (fun x hx=>b4 x (by have:=oQ x hx;omega) (oQ x hx).2)) (by omega),fun x hx=>?_,fun x hx=>?_,fun x hx=>?_,fun x hx=>?_,fun x hx=>?_,fun x hx=>?_,fun x hx=>?_,snd⟩,hSQ⟩
  ·unfold xX;rw [if_pos (by omega)]
  ·have:=oK x (hok x hx);unfold xX;rw [if_neg (by omega),if_pos (by omega)]
  ·have:=oP x (hop x hx);unfold xX;rw [if_neg (by omega),if_neg (by omega),if_pos (by omega)]
  ·have:=oO x hx;unfold xX;rw [if_neg (by omega),if_neg (by omega),if_neg (by omega),if_pos (by omega)]
  ·have:=sg x hx;have e:=(gD hx).1;unfold xX;rw [if_neg (by omega),if_neg (by omega),if_neg (by omega),if_neg (by omega),if_neg (by omega),if_pos e]
  ·have h1:=si x hx;have e:x≠gs:=fun e=>h1.2.2 (by rw [e];exact dz (by obtain⟨i,hi,_⟩:=uf hx;omega));unfold xX;rw [if_neg (by omega),if_neg (by omega),if_neg (by omega),if_neg (by omega),if_neg (by omega),if_neg e]
  ·have:=oQ x hx;unfold xX;rw [if_neg (by omega),if_neg (by omega),if_neg (by omega),if_neg (by omega),if_pos (by omega)]
 clear e4 hSQ hso b4 b3 b2 b1 oK oP oO oQ sw sg si snd hkW hpW hWk hWp hok hop;exact bodyPost_ret (v:= .agg #[.int .i64 n.id,.int .i64 n.par,.slice ak n.kids.length ck,.int .i64 n.next,.slice ap n.pu.length cp,.slice ao n.out.length co,.slice a n.seen.length cs,.int .i64 n.old,.slice ar n.reqs.length cr]) (by simp[results,Tryz.results37,go_sem,c0,c1,c2,c3,c4,c5,c6,c7,c8]) rfl ⟨⟨ak,ap,ao,a,ar,ck,cp,co,cs,cr⟩,_,_,rfl,jY,HBE,HPS.1,HPS.2,HRS⟩
set_option maxHeartbeats 2000000
theorem own_lower {w:World} {b b':Nat} {e:TypeId} {sz:Nat} {v:Value} {n:Nat} {xs:List Value} (h:w.ownsRow b e sz v n xs) (hb:b'≤b):w.ownsRow b' e sz v n xs:=by
 exact Zb
theorem Ih (a:Option Addr) (cap:Nat) (l:List Pu) (p:Pu) (n:Int) (w:World) (hl:l.length≤1048600) (hk:∀p∈l,p.k.size≤maxLen) (hn:a=none→l.length=0∧cap=0) (ha:aH w a l) (hno:ig l=false∨¬(1≤n∧n≤1000000000)):
 Calls Tryz.prog 173 #[.slice a l.length cap,wI p,.int .i64 n] w fun e w'=>∃v,e= .returned (.tuple #[v,.bool false])∧v≠ .slice none 0 0∧w'.ownsRow w.heap.size 143 4 v l.length (GR.flat eG l)∧Below w.heap.size w w':=by
 have ku:=hide (fun w1 (h:aH w1 a l)=>lW a cap l w1 hl hk h);have Fw:=hide (fun w1 (h:aH w1 a l)=>EA a cap l w1 hl hn h);have HA:=hide ha;clear ha hk hn;obtain⟨pk,pm,pf,ps⟩:=p;go_enter Tryz.func173,Tryz.ntmps173
 go_wp2_with fail;refine(ku _ (GR.At.below HA (bZ w _))).mono ?_;rintro e w1 ⟨rfl,hb1⟩;have HB1:=hide ((bZ w _).trans (hb1.mono (bZ w _).size));clear hb1;cases hok:ig l with
 |false=>
  go_wp2_with fail
  refine(Fw _ (GR.At.below HA HB1)).mono ?_
  rintro e w2 ⟨v,rfl,hnn,hrow,hb2⟩
  have HNN:=hide hnn
  have HR:=hide (own_lower hrow HB1.size)
  have HB2:=hide (HB1.trans (hb2.mono HB1.size))
  clear hrow hb2 hnn
  go_wp2_with fail
  refine bodyPost_ret (v:= .tuple #[v,.bool false]) (by simp[results,Tryz.results173,go_sem]) rfl ⟨v,rfl,HNN,HR,HB2⟩
 |true=>
  have hn2:decide (sG n 1 1000000000)=false:=decide_eq_false (by rcases hno with h|h;(rw [hok] at h;cases h);exact h)
  go_wp2_with fail
  refine(Kn _ _ _ _).mono ?_
  rintro e w3 ⟨rfl,rfl⟩
  rw [hn2]
  go_wp2_with fail
  refine(Fw _ (GR.At.below HA HB1)).mono ?_
  rintro e w2 ⟨v,rfl,hnn,hrow,hb2⟩
  have HNN:=hide hnn
  have HR:=hide (own_lower hrow HB1.size)
  have HB2:=hide (HB1.trans (hb2.mono HB1.size))
  clear hrow hb2 hnn
  go_wp2_with fail
  refine bodyPost_ret (v:= .tuple #[v,.bool false]) (by simp[results,Tryz.results173,go_sem]) rfl ⟨v,rfl,HNN,HR,HB2⟩
theorem TG (f:Pu→Bool):∀(l:List Pu) (k:Nat),k≤l.length→(∀q∈l.take k,f q=true)→(∀h:k < l.length,f l[k]=false)→l.takeWhile f=l.take k∧l.dropWhile f=l.drop k:=by
 intro l;induction l with
 |nil=>intro k hk _ _;simp
 |cons x r ih=>
  intro k hk h1 h2
  cases k with
  |zero=>
   have hx:f x=false:=h2 (by simp)
   simp[hx]
  |succ k=>
   have hx:f x=true:=h1 x (by simp)
   obtain⟨g1,g2⟩:=ih k (by simpa using hk) (fun q hq=>h1 q (by simp[hq])) (fun h=>h2 (by simpa using h))
   simp[hx,g1,g2]
end Go.Proofs.YtacgbldlonoaaaaGreatDoor
