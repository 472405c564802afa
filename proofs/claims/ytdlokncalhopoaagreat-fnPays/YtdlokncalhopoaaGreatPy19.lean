/- Parts. -/
import Derived.Test.YtdlokncalhopoaaGreatPy17
import Derived.Test.YtdlokncalhopoaaGreatPy15
import Derived.Test.YtdlokncalhopoaaGreatPy18
namespace Go.Proofs.YtdlokncalhopoaaGreat
set_option maxHeartbeats 8000000
set_option maxRecDepth 100000
open Go.RowKit
open Mth
theorem l03CopyA (a:Option Addr) (cap:Nat) (l:List Pu) (w:World) (hl:l.length≤1048600) (ha:PursesAt w a l):
 Calls Tryz.prog 64 #[.slice a l.length cap] w fun e w'=>∃a' c',e= .returned (.slice a' l.length c')∧w'.ownsRow w.heap.size 80 4 (.slice a' l.length c') l.length (GR.flat encP l)∧Below w.heap.size w w'∧(∃g,a'=some ⟨g,0,none⟩)∧l.length≤c':=by
 obtain⟨i0,hi,hz0,hz1,hz2⟩:=info_parts infoPu
 obtain⟨a',c',y,hrun,hrow,hby,hsm⟩:=run_copy_row (P:=Tryz.prog) (enc:=encP) encP_length (by omega) w 25 80 i0 (.agg #[.string ByteArray.empty,.int .i64 0,.int .i64 0,.int .i64 0]) 40 Tryz.underlying25 hi hz0 hz1 hz2 rfl a l cap ha (encP_one l) (by unfold maxLen;omega) (by omega)
 have HR:=hide hrow
 have HB:=hide hby
 have HSM:=hide hsm
 clear ha hi hz0 hz1 hz2 hrow hby hsm
 go_enter Tryz.func64,Tryz.ntmps64
 go_wp2_with (at_builtin;refine wpList_append_eq rfl _ _ 25 rfl _ _ rfl rfl _ _ (hrun _) ?_)
 go_ret
 exact⟨a',c',rfl,unhide HR,unhide HB,unhide HSM⟩
def timeD (s0 s1 s2 s3 s4 gs x:Nat):Nat:=if x < s0 then 0 else if x < s1 then 1 else if x < s2 then 2 else if x < s3 then 3 else if x < s4 then 6 else if x=gs then 4 else 5
structure SM (W4 wr:World) (ob k:Nat) (l:List Sn) (T2:List R3) (I:Nat→Nat) (a:Option Addr) (cs:Nat):Prop where
 len:T2.length=k
 own:wr.ownsRow W4.heap.size 71 3 (.slice a k cs) k (GR.flat encR3 T2)
 dn:∀i (hi:i < l.length),i < k→∃b c,T2[i]?=some ⟨l[i].f,l[i].l,.slice b l[i].ids.length c⟩∧WO wr b c (I i) l[i].ids∧∀x∈fp (I i) l[i].ids,W4.heap.size≤x∧x < wr.heap.size∧(Value.slice a k cs).ownBlock≠some x
 nd:∀i j (hi:i < l.length) (hj:j < l.length),i < j→j < k→0 < l[i].ids.length→0 < l[j].ids.length→I i≠I j
 kp:KeepsL [ob] W4 wr
theorem SM.next {W4 wr x y:World} {ob k:Nat} {l:List Sn} {T2:List R3} {I:Nat→Nat} {a a2:Option Addr} {cs c2 gi cc:Nat} {b:Option Addr} (h:SM W4 wr ob k l T2 I a cs) (hk:k < l.length) (hob:ob < W4.heap.size) (hx:Below wr.heap.size wr x)
 (hi:WO x b cc gi l[k].ids) (hlt:∀z∈fp gi l[k].ids,wr.heap.size≤z∧z < x.heap.size)
 (ho:y.ownsRow W4.heap.size 71 3 (.slice a2 (k+1) c2) (k+1) (GR.flat encR3 T2++encR3 ⟨l[k].f,l[k].l,.slice b l[k].ids.length cc⟩)) (hg:x.grownBy y (Value.slice a k cs).ownBlock) (hw:∀z,(Value.slice a2 (k+1) c2).ownBlock=some z→(Value.slice a k cs).ownBlock=some z∨x.heap.size≤z):
 SM W4 (y.setCell ⟨ob,6,none⟩ (.slice a2 (k+1) c2)) ob (k+1) l (T2++[⟨l[k].f,l[k].l,.slice b l[k].ids.length cc⟩]) (fun i=>if i=k then gi else I i) a2 c2:=by
 have hs:y.heap.size=(y.setCell ⟨ob,6,none⟩ (.slice a2 (k+1) c2)).heap.size:=by simp[World.setCell]
 have hkp:KeepsL [ob] y (y.setCell ⟨ob,6,none⟩ (.slice a2 (k+1) c2)):=KeepsL.set _
 have hx1:=hx.size
 have hx2:=hg.size
 have hx3:=h.kp.size
 have hoo:=h.own.lt
 have hxy:KeepsL (Value.slice a k cs).ownBlock.toList x y:=⟨hg.os,hg.tape,hg.output,hg.size,fun z hz hne=>hg.block z hz (fun e=>hne (by rw [←e];simp))⟩
 refine⟨by simp[h.len],?_,fun i hi' hik=>?_,fun i j hi' hj hij hjk h1 h2=>?_,?_⟩
 ·rw [GR.flat_append,GR.flat_one]
  exact own_keepsL ho hkp (fun z hz=>by have:z=ob:=(by simpa using hz);omega)
 ·by_cases e:i=k
  ·subst e
   refine⟨b,cc,by rw [List.getElem?_append_right (by rw [h.len];exact Nat.le_refl _),h.len];simp,?_,?_⟩
   ·rw [if_pos rfl]
    refine(hi.keeps hxy (fun z hz hm=>?_)).keeps hkp (fun z hz hm=>?_)
    ·have h1:(Value.slice a i cs).ownBlock=some z:=by simpa using hm
     have:=(hoo z h1).2
     have:=(hlt z hz).1
     omega
    ·have:=(hlt z hz).1
     have:z=ob:=(by simpa using hm)
     omega
   ·rw [if_pos rfl]
    refine fun z hz=>⟨by have:=(hlt z hz).1;omega,by rw [←hs];have:=(hlt z hz).2;omega,fun e2=>?_⟩
    rcases hw z e2 with h1|h1
    ·have:=(hoo z h1).2
     have:=(hlt z hz).1
     omega
    ·have:=(hlt z hz).2
     omega
  ·obtain⟨b',c',e1,e2,e3⟩:=h.dn i hi' (by omega)
   refine⟨b',c',by rw [List.getElem?_append_left (by rw [h.len];omega)];exact e1,?_,?_⟩
   ·rw [if_neg e]
    refine((e2.below hx).keeps hxy (fun z hz hm=>?_)).keeps hkp (fun z hz hm=>?_)
    ·exact(e3 z hz).2.2 (by simpa using hm)
    ·have:=(e3 z hz).1
     have:z=ob:=(by simpa using hm)
     omega
   ·rw [if_neg e]
    refine fun z hz=>⟨(e3 z hz).1,by rw [←hs];have:=(e3 z hz).2.1;omega,fun e4=>?_⟩
    rcases hw z e4 with h1|h1
    ·exact(e3 z hz).2.2 h1
    ·have:=(e3 z hz).2.1
     omega
 ·by_cases ej:j=k
  ·subst ej
   rw [if_neg (by omega),if_pos rfl]
   obtain⟨_,_,_,_,e3⟩:=h.dn i hi' (by omega)
   have q1:=(e3 (I i) (fp_mem h1)).2.1
   have q2:=(hlt gi (fp_mem h2)).1
   omega
  ·rw [if_neg (by omega),if_neg ej]
   exact h.nd i j hi' hj hij (by omega) h1 h2
 ·refine⟨hg.os.trans (hx.os.trans h.kp.os),hg.tape.trans (hx.tape.trans h.kp.tape),hg.output.trans (hx.output.trans h.kp.output),by rw [←hs];omega,fun z hz hm=>?_⟩
  have hne:z≠ob:=by simpa using hm
  rw [Below.heap_setCell _ _ _ _ hne,hg.block z (by omega) (fun e=>by have:=(hoo z e.symm).1;omega),hx.block z (by omega)]
  exact h.kp.block z hz hm
theorem SM.done {W4 wr:World} {ob:Nat} {l:List Sn} {T2:List R3} {I:Nat→Nat} {a:Option Addr} {cs:Nat} (h:SM W4 wr ob l.length l T2 I a cs):∃g,SeenQ wr a g I l∧(∀x∈fp g l,W4.heap.size≤x)∧(∀x∈fpI I l,W4.heap.size≤x∧x < wr.heap.size∧x∉fp g l)∧(fpI I l).Nodup:=by
 have ho:=h.own
 rw [←h.len] at ho
 obtain⟨a',c',g,e,hW,hg,hgo⟩:=GR.W.of_own (enc:=encR3) encR3_length ho
 cases e
 rw [h.len] at hgo
 have hfe:∀x,x∈fp g l→x∈fp g T2:=fun x hx=>by have:=of_fp hx;rw [this.1];exact fp_mem (by rw [h.len];exact this.2)
 refine⟨g,⟨⟨T2,hW,h.len,fun i hi=>?_⟩,fun hp=>?_⟩,fun x hx=>(hg x (hfe x hx)).1,fun x hx=>?_,?_⟩
 ·obtain⟨b,c,e1,e2,_⟩:=h.dn i hi hi
  exact⟨b,c,e1,e2⟩
 ·have hx:=hgo g (fp_mem (by rw [h.len];exact hp))
  rcases h.own.2 with⟨_,hn⟩|⟨g',cap,cur,hv,_,hgg,_⟩
  ·omega
  ·rw [hv] at hx
   have e3:g'=g:=by simpa [Value.ownBlock] using hx
   rw [e3] at hgg
   exact⟨cur,hgg⟩
 ·obtain⟨i,hi,rfl,hpos⟩:=of_fpI hx
  obtain⟨_,_,_,_,e3⟩:=h.dn i hi hi
  have q:=e3 _ (fp_mem hpos)
  exact⟨q.1,q.2.1,fun hm=>q.2.2 (hgo _ (hfe _ hm))⟩
 ·rw [fpI_nodup]
  exact fun i j hi hj hij h1 h2=>h.nd i j hi hj hij hj h1 h2
theorem specCopyNode (n:Nd) (A:Ads) (w:World) (hz:NdSz n 1048576) (ha:NodeAt w A n):
 Calls Tryz.prog 46 #[ndv n A] w fun e w'=>∃A' G' c',e= .returned (ndv n A')∧NQ w' w.heap.size n A' G' c'∧Below w.heap.size w w'∧(∃g,A'.p=some ⟨g,0,none⟩)∧n.pu.length≤A'.cp∧(∃g,A'.r=some ⟨g,0,none⟩)∧n.reqs.length≤A'.cr:=by
 have HZ:=hide hz
 have HA:=hide ha
 have hlk:=hz.k
 have hlp:=hz.p
 have hlo:=hz.o
 have hls:=hz.s
 have hlr:=hz.r
 clear hz ha
 go_enter Tryz.func46,Tryz.ntmps46
 go_upto_region 2 with fail
 refine wp_at (fun W0 hW=>?_)
 obtain⟨e1,e2,e3,e4⟩:=allocs3E w (.cells (ndc n A) 30) (.cells zc9 30) (.cells (ndc n A) 30)
 rw [←hW] at e1 e2 e3 e4
 have HN_W0:=hide e1
 have HR_W0:=hide e2
 have HO_W0:=hide e3
 have HB_W0:=hide e4
 have hsz0:=obj_lt e3
 clear hW e1 e2 e3 e4
 obtain⟨c0,c1,c2,c3,c4,c5,c6,c7,c8⟩:=nine (unhide HN_W0)
 have hnl_W0:=obj_lt (unhide HN_W0)
 have hol_W0:=obj_lt (unhide HO_W0)
 obtain⟨i0,hi,hz0,hz1,hz2⟩:=info_parts infoInt
 obtain⟨ak,ck,y_W1,hrun,hrow,hby,_⟩:=run_copy_row (P:=Tryz.prog) (enc:=encNum) encNum_length (by omega) W0 24 3 i0 (.int .i64 0) 8 Tryz.underlying24 hi hz0 hz1 hz2 rfl A.k n.kids A.ck (GR.At.below (unhide HA).k (unhide HB_W0)) (by intro u hu;rw [flat_num] at hu;obtain⟨z,_,rfl⟩:=List.mem_map.1 hu;rfl) (by unfold maxLen;omega) (by omega)
 clear hi hz0 hz1 hz2
 have HY_W1:=hide hby
 obtain⟨d0,d1,d2,d3,d4,d5,d6,d7,d8⟩:=nine (obj_step (unhide HO_W0) hby)
 have f1:=obj_free (obj_step (unhide HO_W0) hby) 2
 have hol1:=obj_lt (obj_step (unhide HO_W0) hby)
 clear hby
 go_upto_region 3 with(at_builtin;refine wpList_append_eq rfl _ _ 24 rfl _ _ rfl rfl _ _ (hrun _) ?_)
 refine wp_at (fun W1 hW=>?_)
 have hO1:=obj_step (unhide HO_W0) (unhide HY_W1)
 have HN_W1:Hid (W1.heap[w.heap.size]?=some (.cells (ndc n A) 30 (0,0))):=by rw [hW];exact(Below.heap_setCell _ _ _ _ (show w.heap.size≠w.heap.size+2 by omega)).trans (obj_step (unhide HN_W0) (unhide HY_W1))
 have HR_W1:Hid (W1.heap[w.heap.size+1]?=some (.cells zc9 30 (0,0))):=by rw [hW];exact(Below.heap_setCell _ _ _ _ (show w.heap.size+1≠w.heap.size+2 by omega)).trans (obj_step (unhide HR_W0) (unhide HY_W1))
 have HO_W1:Hid (W1.heap[w.heap.size+2]?=some (.cells #[.int .i64 n.id,.int .i64 n.par,.slice ak n.kids.length ck,.int .i64 n.next,.slice A.p n.pu.length A.cp,.slice A.o n.out.length A.co,.slice A.s n.seen.length A.cs,.int .i64 n.old,.slice A.r n.reqs.length A.cr] 30 (0,0))):=by rw [hW];exact setN9 hO1
 have HB_W1:Hid (Below w.heap.size w W1):=by rw [hW];exact belowN (by omega) ((unhide HB_W0).trans ((unhide HY_W1).mono (unhide HB_W0).size))
 have HK_W1:Hid (KeepsL [w.heap.size+2] W0 W1):=by rw [hW];exact keepsN (unhide HY_W1)
 have HV_W1:Hid (KeepsL [w.heap.size+2] y_W1 W1):=by rw [hW];exact KeepsL.set _
 clear hW hO1 HN_W0 HR_W0 HO_W0
 clear c0 c1 c2 c3 c4 c5 c6 c7 c8 d0 d1 d2 d3 d4 d5 d6 d7 d8 f1 hol1 hrun
 have HKW:Hid (W1.ownsRow W0.heap.size 3 1 (.slice ak n.kids.length ck) n.kids.length (GR.flat encNum n.kids)):=own_keepsL hrow (unhide HV_W1) (fun x hx=>by have:x=w.heap.size+2:=(by simpa using hx);omega)
 clear hrow
 obtain⟨c0,c1,c2,c3,c4,c5,c6,c7,c8⟩:=nine (unhide HN_W1)
 have hnl_W1:=obj_lt (unhide HN_W1)
 have hol_W1:=obj_lt (unhide HO_W1)
 go_wp2_with fail
 refine(l03CopyA A.p A.cp n.pu W1 (by omega) (GR.At.below (unhide HA).p (unhide HB_W1))).mono ?_
 rintro e y_W2 ⟨ap,cp,rfl,hrow,hby,hsm⟩
 have HPS:=hide hsm
 clear hsm
 have HY_W2:=hide hby
 obtain⟨d0,d1,d2,d3,d4,d5,d6,d7,d8⟩:=nine (obj_step (unhide HO_W1) hby)
 have f1:=obj_free (obj_step (unhide HO_W1) hby) 4
 have hol1:=obj_lt (obj_step (unhide HO_W1) hby)
 clear hby c0 c1 c2 c3 c4 c5 c6 c7 c8
 go_upto_region 4 with fail
 refine wp_at (fun W2 hW=>?_)
 have hO1:=obj_step (unhide HO_W1) (unhide HY_W2)
 have HN_W2:Hid (W2.heap[w.heap.size]?=some (.cells (ndc n A) 30 (0,0))):=by rw [hW];exact(Below.heap_setCell _ _ _ _ (show w.heap.size≠w.heap.size+2 by omega)).trans (obj_step (unhide HN_W1) (unhide HY_W2))
 have HR_W2:Hid (W2.heap[w.heap.size+1]?=some (.cells zc9 30 (0,0))):=by rw [hW];exact(Below.heap_setCell _ _ _ _ (show w.heap.size+1≠w.heap.size+2 by omega)).trans (obj_step (unhide HR_W1) (unhide HY_W2))
 have HO_W2:Hid (W2.heap[w.heap.size+2]?=some (.cells #[.int .i64 n.id,.int .i64 n.par,.slice ak n.kids.length ck,.int .i64 n.next,.slice ap n.pu.length cp,.slice A.o n.out.length A.co,.slice A.s n.seen.length A.cs,.int .i64 n.old,.slice A.r n.reqs.length A.cr] 30 (0,0))):=by rw [hW];exact setN9 hO1
 have HB_W2:Hid (Below w.heap.size w W2):=by rw [hW];exact belowN (by omega) ((unhide HB_W1).trans ((unhide HY_W2).mono (unhide HB_W1).size))
 have HK_W2:Hid (KeepsL [w.heap.size+2] W1 W2):=by rw [hW];exact keepsN (unhide HY_W2)
 have HV_W2:Hid (KeepsL [w.heap.size+2] y_W2 W2):=by rw [hW];exact KeepsL.set _
 clear hW hO1 HN_W1 HR_W1 HO_W1
 clear d0 d1 d2 d3 d4 d5 d6 d7 d8 f1 hol1
 have HPW:Hid (W2.ownsRow W1.heap.size 80 4 (.slice ap n.pu.length cp) n.pu.length (GR.flat encP n.pu)):=own_keepsL hrow (unhide HV_W2) (fun x hx=>by have:x=w.heap.size+2:=(by simpa using hx);omega)
 clear hrow
 obtain⟨c0,c1,c2,c3,c4,c5,c6,c7,c8⟩:=nine (unhide HN_W2)
 have hnl_W2:=obj_lt (unhide HN_W2)
 have hol_W2:=obj_lt (unhide HO_W2)
 obtain⟨i0,hi,hz0,hz1,hz2⟩:=info_parts infoSent
 obtain⟨ao,co,y_W3,hrun,hrow,hby,_⟩:=run_copy_row (P:=Tryz.prog) (enc:=encSnt) encSnt_length (by omega) W2 26 40 i0 (.agg #[.int .i64 0,.int .i64 0,.string ByteArray.empty,.int .i64 0]) 40 Tryz.underlying26 hi hz0 hz1 hz2 rfl A.o n.out A.co (GR.At.below (unhide HA).o (unhide HB_W2)) (flatSnt_one _) (by unfold maxLen;omega) (by omega)
 clear hi hz0 hz1 hz2
 have HY_W3:=hide hby
 obtain⟨d0,d1,d2,d3,d4,d5,d6,d7,d8⟩:=nine (obj_step (unhide HO_W2) hby)
 have f1:=obj_free (obj_step (unhide HO_W2) hby) 5
 have hol1:=obj_lt (obj_step (unhide HO_W2) hby)
 clear hby
 go_upto_region 5 with(at_builtin;refine wpList_append_eq rfl _ _ 26 rfl _ _ rfl rfl _ _ (hrun _) ?_)
 refine wp_at (fun W3 hW=>?_)
 have hO1:=obj_step (unhide HO_W2) (unhide HY_W3)
 have HN_W3:Hid (W3.heap[w.heap.size]?=some (.cells (ndc n A) 30 (0,0))):=by rw [hW];exact(Below.heap_setCell _ _ _ _ (show w.heap.size≠w.heap.size+2 by omega)).trans (obj_step (unhide HN_W2) (unhide HY_W3))
 have HR_W3:Hid (W3.heap[w.heap.size+1]?=some (.cells zc9 30 (0,0))):=by rw [hW];exact(Below.heap_setCell _ _ _ _ (show w.heap.size+1≠w.heap.size+2 by omega)).trans (obj_step (unhide HR_W2) (unhide HY_W3))
 have HO_W3:Hid (W3.heap[w.heap.size+2]?=some (.cells #[.int .i64 n.id,.int .i64 n.par,.slice ak n.kids.length ck,.int .i64 n.next,.slice ap n.pu.length cp,.slice ao n.out.length co,.slice A.s n.seen.length A.cs,.int .i64 n.old,.slice A.r n.reqs.length A.cr] 30 (0,0))):=by rw [hW];exact setN9 hO1
 have HB_W3:Hid (Below w.heap.size w W3):=by rw [hW];exact belowN (by omega) ((unhide HB_W2).trans ((unhide HY_W3).mono (unhide HB_W2).size))
 have HK_W3:Hid (KeepsL [w.heap.size+2] W2 W3):=by rw [hW];exact keepsN (unhide HY_W3)
 have HV_W3:Hid (KeepsL [w.heap.size+2] y_W3 W3):=by rw [hW];exact KeepsL.set _
 clear hW hO1 HN_W2 HR_W2 HO_W2
 clear c0 c1 c2 c3 c4 c5 c6 c7 c8 d0 d1 d2 d3 d4 d5 d6 d7 d8 f1 hol1 hrun
 have HOW:Hid (W3.ownsRow W2.heap.size 40 4 (.slice ao n.out.length co) n.out.length (GR.flat encSnt n.out)):=own_keepsL hrow (unhide HV_W3) (fun x hx=>by have:x=w.heap.size+2:=(by simpa using hx);omega)
 clear hrow
 obtain⟨c0,c1,c2,c3,c4,c5,c6,c7,c8⟩:=nine (unhide HN_W3)
 have hnl_W3:=obj_lt (unhide HN_W3)
 have hol_W3:=obj_lt (unhide HO_W3)
 obtain⟨i0,hi,hz0,hz1,hz2⟩:=info_parts infoReq
 obtain⟨ar,cr,y_W4,hrun,hrow,hby,hsr⟩:=run_copy_row (P:=Tryz.prog) (enc:=encRq) encRq_length (by omega) W3 28 56 i0 (.agg #[.int .i64 0,.string ByteArray.empty,.int .i64 0,.int .i64 0]) 40 Tryz.underlying28 hi hz0 hz1 hz2 rfl A.r n.reqs A.cr (GR.At.below (unhide HA).r (unhide HB_W3)) (flatRq_one _) (by unfold maxLen;omega) (by omega)
 clear hi hz0 hz1 hz2
 have HRS:=hide hsr
 clear hsr
 have HY_W4:=hide hby
 obtain⟨d0,d1,d2,d3,d4,d5,d6,d7,d8⟩:=nine (obj_step (unhide HO_W3) hby)
 have f1:=obj_free (obj_step (unhide HO_W3) hby) 8
 have hol1:=obj_lt (obj_step (unhide HO_W3) hby)
 clear hby
 go_upto_region 6 with(at_builtin;refine wpList_append_eq rfl _ _ 28 rfl _ _ rfl rfl _ _ (hrun _) ?_)
 refine wp_at (fun W4 hW=>?_)
 have hO1:=obj_step (unhide HO_W3) (unhide HY_W4)
 have HN_W4:Hid (W4.heap[w.heap.size]?=some (.cells (ndc n A) 30 (0,0))):=by rw [hW];exact(Below.heap_setCell _ _ _ _ (show w.heap.size≠w.heap.size+2 by omega)).trans (obj_step (unhide HN_W3) (unhide HY_W4))
 have HR_W4:Hid (W4.heap[w.heap.size+1]?=some (.cells zc9 30 (0,0))):=by rw [hW];exact(Below.heap_setCell _ _ _ _ (show w.heap.size+1≠w.heap.size+2 by omega)).trans (obj_step (unhide HR_W3) (unhide HY_W4))
 have HO_W4:Hid (W4.heap[w.heap.size+2]?=some (.cells #[.int .i64 n.id,.int .i64 n.par,.slice ak n.kids.length ck,.int .i64 n.next,.slice ap n.pu.length cp,.slice ao n.out.length co,.slice A.s n.seen.length A.cs,.int .i64 n.old,.slice ar n.reqs.length cr] 30 (0,0))):=by rw [hW];exact setN9 hO1
 have HB_W4:Hid (Below w.heap.size w W4):=by rw [hW];exact belowN (by omega) ((unhide HB_W3).trans ((unhide HY_W4).mono (unhide HB_W3).size))
 have HK_W4:Hid (KeepsL [w.heap.size+2] W3 W4):=by rw [hW];exact keepsN (unhide HY_W4)
 have HV_W4:Hid (KeepsL [w.heap.size+2] y_W4 W4):=by rw [hW];exact KeepsL.set _
 clear hW hO1 HN_W3 HR_W3 HO_W3
 clear c0 c1 c2 c3 c4 c5 c6 c7 c8 d0 d1 d2 d3 d4 d5 d6 d7 d8 f1 hol1 hrun
 have HQW:Hid (W4.ownsRow W3.heap.size 56 4 (.slice ar n.reqs.length cr) n.reqs.length (GR.flat encRq n.reqs)):=own_keepsL hrow (unhide HV_W4) (fun x hx=>by have:x=w.heap.size+2:=(by simpa using hx);omega)
 clear hrow
 obtain⟨c0,c1,c2,c3,c4,c5,c6,c7,c8⟩:=nine (unhide HN_W4)
 have hnl_W4:=obj_lt (unhide HN_W4)
 have hol_W4:=obj_lt (unhide HO_W4)
 obtain⟨d0,d1,d2,d3,d4,d5,d6,d7,d8⟩:=nine (unhide HO_W4)
 have f6:=obj_free (unhide HO_W4) 6
 go_upto_region 7 with fail
 refine wp_at (fun Z hZ=>?_)
 have hsz4:(W4.setCell ⟨w.heap.size+2,6,none⟩ (.slice (some ⟨W4.heap.size,0,none⟩) 0 0)).heap.size=W4.heap.size:=by simp[World.setCell]
 have hZo:Z.ownsRow W4.heap.size 71 3 (.slice (some ⟨W4.heap.size,0,none⟩) 0 0) 0 []:=by
  have hlit:=World.ownsRow_lit (base:=W4.heap.size) (e:=71) (size:=3) (W4.setCell ⟨w.heap.size+2,6,none⟩ (.slice (some ⟨W4.heap.size,0,none⟩) 0 0)) #[] 0 (by rw [hsz4];exact Nat.le_refl _) (by unfold maxLen;omega) (by simp)
  rw [hsz4] at hlit
  rw [hZ]
  exact hlit
 have hZk:KeepsL [w.heap.size+2] W4 Z:=by rw [hZ];exact(KeepsL.set _).trans (KeepsL.of_below (below_one _ _))
 have hZb:Z.heap[w.heap.size+2]?=some (.cells #[.int .i64 n.id,.int .i64 n.par,.slice ak n.kids.length ck,.int .i64 n.next,.slice ap n.pu.length cp,.slice ao n.out.length co,.slice (some ⟨W4.heap.size,0,none⟩) 0 0,.int .i64 n.old,.slice ar n.reqs.length cr] 30 (0,0)):=by
  rw [hZ]
  exact(Below.heap_alloc _ _ _ (by rw [hsz4];exact hol_W4)).trans (setN9 (unhide HO_W4))
 have HZF:=hide (And.intro hZo (And.intro hZk hZb))
 clear hZ hsz4 hZo hZk hZb c0 c1 c2 c3 c4 c5 c6 c7 c8 d0 d1 d2 d3 d4 d5 d6 d7 d8 f6
 go_wp2_with fail
 go_loopw [4] (fun i wr=>∃(k:Nat) (T2:List R3) (I:Nat→Nat) (a:Option Addr) (cs:Nat),k≤n.seen.length∧i= .int .i64 k∧SM W4 wr (w.heap.size+2) k n.seen T2 I a cs∧wr.heap[w.heap.size+2]?=some (.cells #[.int .i64 n.id,.int .i64 n.par,.slice ak n.kids.length ck,.int .i64 n.next,.slice ap n.pu.length cp,.slice ao n.out.length co,.slice a k cs,.int .i64 n.old,.slice ar n.reqs.length cr] 30 (0,0))) (fun i _=>n.seen.length - (intOf i).toNat)
 case atStart=>
  exact⟨0,[],fun _=>0,some ⟨W4.heap.size,0,none⟩,0,Nat.zero_le _,rfl,⟨rfl,(unhide HZF).1,fun i hi h=>by omega,fun i j _ _ _ h=>by omega,(unhide HZF).2.1⟩,(unhide HZF).2.2⟩
 case' round=>
  obtain⟨k,T2,I,a,cs,hk,rfl,hsm,hobr⟩:=hrel
  have HSM:=hide hsm
  have HOB:=hide hobr
  have HNr:=hide (hsm.kp.obj (unhide HN_W4) (by simp))
  have HRr:=hide (hsm.kp.obj (unhide HR_W4) (by simp))
  have HBr:=hide ((unhide HB_W4).trans (hsm.kp.below (fun x hx=>by have:x=w.heap.size+2:=(by simpa using hx);omega) (unhide HB_W4).size))
  have hW4r:=hsm.kp.size
  clear hsm hobr
  obtain⟨c0,c1,c2,c3,c4,c5,c6,c7,c8⟩:=nine (unhide HNr)
  have hnr:=obj_lt (unhide HNr)
  by_cases hlt:k < n.seen.length
  case' pos=>
   have hltI:(k:Int) < (n.seen.length:Int):=by omega
   obtain⟨g,off,b,cc,e0,hg,q0,q1,q2,hIb⟩:=SeenAt.below (unhide HA).s (unhide HBr) k hlt
   have HSN:=hide (fun x y a2 c2 gi b cc hx hi hlt2 ho hg hw=>SM.next (x:=x) (y:=y) (a2:=a2) (c2:=c2) (gi:=gi) (b:=b) (cc:=cc) (unhide HSM) hlt hol_W4 hx hi hlt2 ho hg hw)
   have hil:=(unhide HZ).sk _ (List.getElem_mem hlt)
   have HIB:=hide hIb
   rw [e0] at c6
   clear hIb e0
   generalize n.seen[k]=s0 at *
   obtain⟨sf,sl,ids⟩:=s0
   dsimp only at q0 q1 q2 HSN HIB hil
   go_upto_region 11 with fail
   refine wp_at (fun X1 hX=>?_)
   have e1:X1.heap[wr.heap.size]?=some (.cells #[.int .i64 sf,.int .i64 sl,.slice b ids.length cc] 71 (0,0)):=by rw [hX];exact heap_alloc_new _ _
   have e2:Below wr.heap.size wr X1:=by rw [hX];exact below_one _ _
   have E1:=hide e1
   have E2:=hide e2
   have hz1l:=obj_lt e1
   obtain⟨s0,s1,s2⟩:=three e1
   clear hX e1 e2 q0 q1 q2 c0 c1 c2 c3 c4 c5 c6 c7 c8
   obtain⟨i0,hi,hz0,hz1,hz2⟩:=info_parts infoInt
   obtain⟨b2,cc2,y2,hrun,hrow,hby,hq0⟩:=run_copy_rowQ (P:=Tryz.prog) (enc:=encNum) encNum_length (by omega) X1 24 3 i0 (.int .i64 0) 8 Tryz.underlying24 hi hz0 hz1 hz2 rfl b ids cc (GR.At.below (unhide HIB) (unhide E2)) (by intro u hu;rw [flat_num] at hu;obtain⟨z,_,rfl⟩:=List.mem_map.1 hu;rfl) (by unfold maxLen;omega) (by omega)
   have hE3:=obj_step (unhide E1) hby
   have f2:=obj_free hE3 2
   have hl3:=obj_lt hE3
   obtain⟨t0,t1,t2⟩:=three hE3
   have HE3:=hide hE3
   have HBY:=hide hby
   clear hi hz0 hz1 hz2 hby hE3
   go_upto_region 12 with(at_builtin;refine wpList_append_eq rfl _ _ 24 rfl _ _ rfl rfl _ _ (hrun _) ?_)
   refine wp_at (fun X2 hX=>?_)
   have e3:X2.heap[wr.heap.size]?=some (.cells #[.int .i64 sf,.int .i64 sl,.slice b2 ids.length cc2] 71 (0,0)):=by rw [hX];exact blk_setO (unhide HE3) 2 (.slice b2 ids.length cc2)
   have e4:Below wr.heap.size wr X2:=by
    rw [hX]
    exact((unhide E2).trans ((unhide HBY).mono (unhide E2).size)).setCell (p:=⟨wr.heap.size,2,none⟩) (Nat.le_refl _) _
   have hv2:KeepsL [wr.heap.size] y2 X2:=by rw [hX];exact KeepsL.set _
   obtain⟨_,_,g2,e5,hW2,hg2,_⟩:=GR.W.of_own (enc:=encNum) encNum_length hrow
   cases e5
   have hW3:=(WO.of_own hW2 hrow hq0).keeps hv2 (fun z hz=>by have:=(hg2 z hz).1;simp;omega)
   have hg3:∀z∈fp g2 ids,wr.heap.size≤z∧z < X2.heap.size:=fun z hz=>⟨by have:=(hg2 z hz).1;omega,Nat.lt_of_lt_of_le (hg2 z hz).2 hv2.size⟩
   clear hX hq0 hrow hW2 hg2 hv2 s0 s1 s2 t0 t1 t2 f2 hl3 hrun
   have HO3:=hide (obj_step (unhide HOB) e4)
   obtain⟨c0,c1,c2,c3,c4,c5,c6,c7,c8⟩:=nine (unhide HO3)
   have hl4:=obj_lt (unhide HO3)
   obtain⟨s0,s1,s2⟩:=three e3
   have hl5:=obj_lt e3
   obtain⟨i0,hi,hz0,hz1,hz2⟩:=info_parts infoSeen
   have hlenT:=(unhide HSM).len
   have hown3:=GR.own_below (unhide HSM).own (e4.trans ((below_one X2 (.cells #[.int .i64 sf,.int .i64 sl,.slice b2 ids.length cc2] 71)).mono e4.size))
   have hblk:GR.Blk encR3 71 (X2.alloc (.cells #[.int .i64 sf,.int .i64 sl,.slice b2 ids.length cc2] 71)) X2.heap.size [⟨sf,sl,.slice b2 ids.length cc2⟩]:=heap_alloc_new X2 _
   obtain⟨v6,y6,hrun6,hown6,hgr6,hw6⟩:=run_append_row (P:=Tryz.prog) (enc:=encR3) encR3_length (by omega) (X2.alloc (.cells #[.int .i64 sf,.int .i64 sl,.slice b2 ids.length cc2] 71)) W4.heap.size 27 27 71 i0 (.agg #[.int .i64 0,.int .i64 0,.slice none 0 0]) 40 Tryz.underlying27 hi hz0 hz1 hz2 rfl (.slice a k cs) k (GR.flat encR3 T2) hown3 (some ⟨X2.heap.size,0,none⟩) [⟨sf,sl,.slice b2 ids.length cc2⟩] 1 (hblk.at encR3_length) (by intro u hu;rw [GR.flat_one] at hu;simp only[encR3,List.mem_cons,List.not_mem_nil,or_false] at hu;rcases hu with rfl|rfl|rfl<;>rfl) (by unfold maxLen;simp;omega) (by simp;omega) (by have:=e4.size;simp;omega)
   rw [GR.flat_one] at hown6
   have hform:∃a6 c6,v6= .slice a6 (k+1) c6:=by
    have h6:=hown6
    rw [←GR.flat_one (enc:=encR3),←GR.flat_append] at h6
    have hl6:(T2++[(⟨sf,sl,.slice b2 ids.length cc2⟩:R3)]).length=k+1:=by simp[hlenT]
    have h7:y6.ownsRow W4.heap.size 71 3 v6 (T2++[(⟨sf,sl,.slice b2 ids.length cc2⟩:R3)]).length (GR.flat encR3 (T2++[⟨sf,sl,.slice b2 ids.length cc2⟩])):=by rw [hl6];exact h6
    obtain⟨a6,c6',e6,_⟩:=GR.own_at (enc:=encR3) (sz:=3) encR3_length h7
    rw [hl6] at e6
    exact⟨a6,c6',e6⟩
   obtain⟨a6,cc6,rfl⟩:=hform
   have hob6:y6.heap[w.heap.size+2]?=some (.cells #[.int .i64 n.id,.int .i64 n.par,.slice ak n.kids.length ck,.int .i64 n.next,.slice ap n.pu.length cp,.slice ao n.out.length co,.slice a k cs,.int .i64 n.old,.slice ar n.reqs.length cr] 30 (0,0)):=by
    rw [hgr6.block _ (by simp;omega) (fun e=>by have:=((unhide HSM).own.lt _ e.symm).1;omega)]
    exact obj_step (unhide HO3) (below_one X2 _)
   have HNEW:=hide (unhide HSN (X2.alloc (.cells #[.int .i64 sf,.int .i64 sl,.slice b2 ids.length cc2] 71)) y6 a6 cc6 g2 b2 cc2 (e4.trans ((below_one X2 _).mono e4.size)) (hW3.below (below_one X2 _)) (fun z hz=>⟨(hg3 z hz).1,by have:=(hg3 z hz).2;simp;omega⟩) hown6 hgr6 hw6)
   have HOB6:=hide hob6
   obtain⟨d0,d1,d2,d3,d4,d5,d6,d7,d8⟩:=nine hob6
   have f6:=obj_free hob6 6
   have hl6:=obj_lt hob6
   clear hi hz0 hz1 hz2 hown3 hblk hown6 hgr6 hw6 hob6 HSN hW3 hg3 e3 e4
   go_wp2_with (at_builtin;refine wpList_append_eq rfl _ _ 27 rfl _ _ rfl rfl _ _ hrun6 ?_)
   go_roundw
   case rel=>
    exact⟨k+1,_,_,a6,cc6,by omega,by go_num,unhide HNEW,setN9 (unhide HOB6)⟩
   case measure=>simp[intOf];omega
  have hke:k=n.seen.length:=by omega
  subst hke
  have hnlt:decide ((n.seen.length:Int) < (n.seen.length:Int))=false:=by simp
  go_upto_region 13 with fail
  refine wp_at (fun W5 hWW=>?_)
  subst hWW
  obtain⟨gs,hsn⟩:=(unhide HSM).done
  have HSN:=hide hsn
  have HK_W5:=hide (unhide HSM).kp
  clear hsn HSM c0 c1 c2 c3 c4 c5 c6 c7 c8
 obtain⟨c0,c1,c2,c3,c4,c5,c6,c7,c8⟩:=nine (unhide HOB)
 obtain⟨d0,d1,d2,d3,d4,d5,d6,d7,d8⟩:=nine (unhide HRr)
 have f0:=obj_free (unhide HRr) 0
 have f1:=obj_free (unhide HRr) 1
 have f2:=obj_free (unhide HRr) 2
 have f3:=obj_free (unhide HRr) 3
 have f4:=obj_free (unhide HRr) 4
 have f5:=obj_free (unhide HRr) 5
 have f6:=obj_free (unhide HRr) 6
 have f7:=obj_free (unhide HRr) 7
 have f8:=obj_free (unhide HRr) 8
 have hnl8:=obj_lt (unhide HOB)
 have hrl8:=obj_lt (unhide HRr)
 go_wp2_with fail
 refine bodyPost_atN (fun W' hW'=>?_)
 have e4:W'.heap[w.heap.size+1]?=some (.cells #[.int .i64 n.id,.int .i64 n.par,.slice ak n.kids.length ck,.int .i64 n.next,.slice ap n.pu.length cp,.slice ao n.out.length co,.slice a n.seen.length cs,.int .i64 n.old,.slice ar n.reqs.length cr] 30 (0,0)):=by
  rw [hW']
  exact GR.setW_blk [.int .i64 n.id,.int .i64 n.par,.slice ak n.kids.length ck,.int .i64 n.next,.slice ap n.pu.length cp,.slice ao n.out.length co,.slice a n.seen.length cs,.int .i64 n.old,.slice ar n.reqs.length cr] (o:=0) (xs:=[.int .i64 0,.int .i64 0,.slice none 0 0,.int .i64 0,.slice none 0 0,.slice none 0 0,.slice none 0 0,.int .i64 0,.slice none 0 0]) (unhide HRr)
 have hso:∀x,x≠w.heap.size+1→W'.heap[x]?=W5.heap[x]?:=fun x hx=>by
  rw [hW']
  exact GR.setW_other hx [.int .i64 n.id,.int .i64 n.par,.slice ak n.kids.length ck,.int .i64 n.next,.slice ap n.pu.length cp,.slice ao n.out.length co,.slice a n.seen.length cs,.int .i64 n.old,.slice ar n.reqs.length cr] (o:=0)
 have hsz:W5.heap.size=W'.heap.size:=by rw [hW'];simp[World.setCell]
 have HBE:Hid (Below w.heap.size w W'):=by
  rw [hW']
  exact GR.setW_below (by omega) [.int .i64 n.id,.int .i64 n.par,.slice ak n.kids.length ck,.int .i64 n.next,.slice ap n.pu.length cp,.slice ao n.out.length co,.slice a n.seen.length cs,.int .i64 n.old,.slice ar n.reqs.length cr] (o:=0) (unhide HBr)
 clear hW' c0 c1 c2 c3 c4 c5 c6 c7 c8 d0 d1 d2 d3 d4 d5 d6 d7 d8 f0 f1 f2 f3 f4 f5 f6 f7 f8
 obtain⟨c0,c1,c2,c3,c4,c5,c6,c7,c8⟩:=nine e4
 have k0:=(unhide HK_W1).size
 have k1:=(unhide HK_W2).size
 have k2:=(unhide HK_W3).size
 have k3:=(unhide HK_W4).size
 have k4:=(unhide HK_W5).size
 have b4:∀x,w.heap.size+2 < x→x < W4.heap.size→W'.heap[x]?=W4.heap[x]?:=fun x h1 h2=>(hso x (by omega)).trans ((unhide HK_W5).block x h2 (by simp;omega))
 have b3:∀x,w.heap.size+2 < x→x < W3.heap.size→W'.heap[x]?=W3.heap[x]?:=fun x h1 h2=>(b4 x h1 (by omega)).trans ((unhide HK_W4).block x h2 (by simp;omega))
 have b2:∀x,w.heap.size+2 < x→x < W2.heap.size→W'.heap[x]?=W2.heap[x]?:=fun x h1 h2=>(b3 x h1 (by omega)).trans ((unhide HK_W3).block x h2 (by simp;omega))
 have b1:∀x,w.heap.size+2 < x→x < W1.heap.size→W'.heap[x]?=W1.heap[x]?:=fun x h1 h2=>(b2 x h1 (by omega)).trans ((unhide HK_W2).block x h2 (by simp;omega))
 have oK:=(unhide HKW).lt
 have oP:=(unhide HPW).lt
 have oO:=(unhide HOW).lt
 have oQ:=(unhide HQW).lt
 obtain⟨sw,sg,si,snd⟩:=unhide HSN
 have hkW:=own_blocks (unhide HKW) (w':=W') (fun x hx=>b1 x (by have:=oK x hx;omega) (oK x hx).2)
 have hpW:=own_blocks (unhide HPW) (w':=W') (fun x hx=>b2 x (by have:=oP x hx;omega) (oP x hx).2)
 obtain⟨_,_,gk,ek,hWk,_,hok⟩:=GR.W.of_own (enc:=encNum) encNum_length hkW
 cases ek
 obtain⟨_,_,gp,ep,hWp,_,hop⟩:=GR.W.of_own (enc:=encP) encP_length hpW
 cases ep
 have hSQ:=SeenQ.blocks (w':=W') sw (by omega) (fun x hx=>hso x (by have:=sg x hx;omega)) (fun x hx=>hso x (by have:=si x hx;omega))
 have HNO:Hid (NQ W' w.heap.size n ⟨ak,ap,ao,a,ar,ck,cp,co,cs,cr⟩ ⟨gk,gp,0,gs,0,I⟩ (timeD W0.heap.size W1.heap.size W2.heap.size W3.heap.size W4.heap.size gs)):=by
  refine⟨⟨hWk,hWp,own_base (own_blocks (unhide HOW) (fun x hx=>b3 x (by have:=oO x hx;omega) (oO x hx).2)) (by omega),hSQ.w,own_base (own_blocks (unhide HQW) (fun x hx=>b4 x (by have:=oQ x hx;omega) (oQ x hx).2)) (by omega),fun x hx=>?_,fun x hx=>?_,fun x hx=>?_,fun x hx=>?_,fun x hx=>?_,fun x hx=>?_,fun x hx=>?_,snd⟩,hSQ⟩
  ·unfold timeD;rw [if_pos (by omega)]
  ·have:=oK x (hok x hx);unfold timeD;rw [if_neg (by omega),if_pos (by omega)]
  ·have:=oP x (hop x hx);unfold timeD;rw [if_neg (by omega),if_neg (by omega),if_pos (by omega)]
  ·have:=oO x hx;unfold timeD;rw [if_neg (by omega),if_neg (by omega),if_neg (by omega),if_pos (by omega)]
  ·have:=sg x hx;have e:=(of_fp hx).1;unfold timeD;rw [if_neg (by omega),if_neg (by omega),if_neg (by omega),if_neg (by omega),if_neg (by omega),if_pos e]
  ·have h1:=si x hx;have e:x≠gs:=fun e=>h1.2.2 (by rw [e];exact fp_mem (by obtain⟨i,hi,_⟩:=of_fpI hx;omega));unfold timeD;rw [if_neg (by omega),if_neg (by omega),if_neg (by omega),if_neg (by omega),if_neg (by omega),if_neg e]
  ·have:=oQ x hx;unfold timeD;rw [if_neg (by omega),if_neg (by omega),if_neg (by omega),if_neg (by omega),if_pos (by omega)]
 clear e4 hSQ hso b4 b3 b2 b1 oK oP oO oQ sw sg si snd hkW hpW hWk hWp hok hop
 exact bodyPost_ret (v:= .agg #[.int .i64 n.id,.int .i64 n.par,.slice ak n.kids.length ck,.int .i64 n.next,.slice ap n.pu.length cp,.slice ao n.out.length co,.slice a n.seen.length cs,.int .i64 n.old,.slice ar n.reqs.length cr]) (by simp[results,Tryz.results46,go_sem,c0,c1,c2,c3,c4,c5,c6,c7,c8]) rfl ⟨⟨ak,ap,ao,a,ar,ck,cp,co,cs,cr⟩,_,_,rfl,unhide HNO,unhide HBE,(unhide HPS).1,(unhide HPS).2,unhide HRS⟩
end Go.Proofs.YtdlokncalhopoaaGreat
