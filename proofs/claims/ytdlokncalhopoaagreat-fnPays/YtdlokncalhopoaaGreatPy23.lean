/- Parts. -/
import Derived.Test.YtdlokncalhopoaaGreatPy19
import Derived.Test.YtdlokncalhopoaaGreatPy21
import Derived.Test.YtdlokncalhopoaaGreatPy22
namespace Go.Proofs.YtdlokncalhopoaaGreat
set_option maxHeartbeats 8000000
set_option maxRecDepth 100000
open Go.RowKit
open Mth
def reqJ (l:List Rq) (no:Int):Int:=if reqF l no=true then(reqI l no:Int) else -1
theorem specReq (n:Nd) (A:Ads) (no:Int) (w:World) (hl:n.reqs.length≤1000) (hp:n.reqs.Pairwise (fun s t=>s.no < t.no)) (ha:ReqAt w A.r n.reqs):
 Calls Tryz.prog 65 #[ndv n A,.int .i64 no] w fun e w'=>e= .returned (.int .i64 (reqJ n.reqs no))∧Below w.heap.size w w':=by
 have HA:=hide ha
 have HP:=hide hp
 have HB0:=hide (below_one w (.cells (ndc n A) 30))
 have HN0:=hide (heap_alloc_new w (.cells (ndc n A) 30))
 obtain⟨R,hR⟩:∃R,reqJ n.reqs no=R:=⟨_,rfl⟩
 have HR:=hide hR
 rw [hR]
 clear ha hp hR
 go_enter Tryz.func65,Tryz.ntmps65
 go_wp2_with fail
 go_loopw [5] (fun i wr=>∃k:Nat,k≤n.reqs.length∧i= .int .i64 k∧(∀j (hj:j < n.reqs.length),j < k→n.reqs[j].no≠no)∧Below (w.alloc (.cells (ndc n A) 30)).heap.size (w.alloc (.cells (ndc n A) 30)) wr) (fun i _=>n.reqs.length - (intOf i).toNat)
 case atStart=>exact⟨0,Nat.zero_le _,rfl,fun j _ h=>by omega,Below.refl _ _⟩
 case round=>
  obtain⟨k,hk,rfl,hno,hbw⟩:=hrel
  have HNO:=hide hno
  have HNr:=hide (obj_step (unhide HN0) hbw)
  have HBr:=hide ((unhide HB0).trans (hbw.mono (unhide HB0).size))
  have HBW:=hide hbw
  obtain⟨c0,c1,c2,c3,c4,c5,c6,c7,c8⟩:=nine (unhide HNr)
  have hnl:=obj_lt (unhide HNr)
  clear hno hbw
  by_cases hlt:k < n.reqs.length
  ·have hltI:(k:Int) < (n.reqs.length:Int):=by omega
   obtain⟨g,off,e0,hg,q0,q1,q2,q3⟩:=ReqAt.four (GR.At.below (unhide HA) (unhide HBr)) k hlt
   rw [e0] at c8
   clear e0
   by_cases he:n.reqs[k].no=no
   ·have HF:=hide (reqF_mem (unhide HP) hlt he)
    have hRk:R=k:=by
     rw [←unhide HR]
     unfold reqJ
     rw [if_pos (unhide HF).2,(unhide HF).1]
    subst hRk
    rw [he] at q0
    have hq:(no == no)=true:=by simp
    go_wp2_with fail
    go_ret
    exact⟨rfl,unhide HBr⟩
   ·have hq:(n.reqs[k].no == no)=false:=by simpa using he
    have HE:=hide he
    clear he
    generalize hx:n.reqs[k].no=x0 at *
    have HX:=hide hx
    clear hx
    go_wp2_with fail
    go_roundw
    case rel=>exact⟨k+1,by omega,by go_num,fun j hj hjk=>by
     by_cases e:j=k
     ·subst e;rw [unhide HX];exact unhide HE
     ·exact unhide HNO j hj (by omega),unhide HBW⟩
    case measure=>simp[intOf];omega
  ·have hke:k=n.reqs.length:=by omega
   subst hke
   have hnlt:decide ((n.reqs.length:Int) < (n.reqs.length:Int))=false:=by simp
   have hRk:R= -1:=by
    rw [←unhide HR]
    unfold reqJ
    rw [if_neg (by rw [reqF_none (fun q hq=>by obtain⟨j,hj,rfl⟩:=List.mem_iff_getElem.1 hq;exact unhide HNO j hj hj)];simp)]
   subst hRk
   go_wp2_with fail
   go_ret
   exact⟨rfl,unhide HBr⟩
theorem GR.own_ati {α:Type} {enc:α→List Value} {sz:Nat} {w:World} {B:Nat} {t:TypeId} {a:Option Addr} {c:Nat} {l:List α} (hs:∀x,(enc x).length=sz) (h:w.ownsRow B t sz (.slice a l.length c) l.length (GR.flat enc l)):GR.At enc sz w a l:=by
 obtain⟨a',c',e,h'⟩:=GR.own_at hs h
 simp only[Value.slice.injEq] at e
 rw [e.1]
 exact h'
def Apart (c:Nat→Nat) (w w':World):Prop:=∀x,x < w.heap.size→6 < c x→w'.heap[x]?=w.heap[x]?
theorem Apart.of_below {c:Nat→Nat} {w w':World} (h:Below w.heap.size w w'):Apart c w w':=fun x hx _=>h.block x hx
theorem Apart.keeps {c:Nat→Nat} {w X W':World} {F:List Nat} (h:Apart c w X) (hs:w.heap.size≤X.heap.size) (hk:KeepsL F X W') (hF:∀x∈F,w.heap.size≤x∨c x≤6):Apart c w W':=fun x hx hc=>(hk.block x (by omega) (fun hm=>by have:=hF x hm;omega)).trans (h x hx hc)
theorem Apart.step {c:Nat→Nat} {w X W':World} (h:Apart c w X) (hs:w.heap.size≤X.heap.size) (hb:Below X.heap.size X W'):Apart c w W':=fun x hx hc=>(hb.block x (by omega)).trans (h x hx hc)
theorem Apart.grown {c:Nat→Nat} {w X W':World} {row:Option Nat} (h:Apart c w X) (hs:w.heap.size≤X.heap.size) (hg:X.grownBy W' row) (hr:∀x,row=some x→x < w.heap.size→c x≤6):Apart c w W':=fun x hx hc=>(hg.block x (by omega) (fun hm=>by have:=hr x hm.symm hx;omega)).trans (h x hx hc)
def Out (c:Nat→Nat) (w W' W'':World):Prop:=∃F,KeepsL F W' W''∧∀x∈F,x < w.heap.size∧6 < c x
theorem Out.refl {c:Nat→Nat} {w W':World}:Out c w W' W':=⟨[],KeepsL.refl _ _,fun x hx=>by simp at hx⟩
theorem KC.out {c:Nat→Nat} {w W' W'':World} (h9:∀x,6 < c x→c x=9) (h:Out c w W' W''):KC (newC w.heap.size 9 c) 9 W' W'':=by
 obtain⟨F,hk,hF⟩:=h
 exact KC.keeps hk (fun x hx=>by rw [newC_old (hF x hx).1];exact h9 x (hF x hx).2)
def GivesR (w:World) (B:Nat) (c:Nat→Nat) (R:Nd×Int) (e:Ending) (w':World):Prop:=∃A',e= .returned (.tuple #[ndv R.1 A',.int .i64 R.2])∧(∀W'',Out c w w' W''→RM W'' A' R.1)∧Below B w w'∧Apart c w w'
theorem NQ.nine {w:World} {B:Nat} {n:Nd} {A:Ads} {G:Blks} {c:Nat→Nat} (h:NQ w B n A G c) (hB:B≤w.heap.size):NQ w B n A G (newC w.heap.size 9 c):=h.recol hB (fun _ hx=>newC_old hx)
theorem specRel_stale (n:Nd) (A:Ads) (G:Blks) (c:Nat→Nat) (no:Int) (w:World) (B:Nat) (hB:B≤w.heap.size) (h9:∀x,6 < c x→c x=9) (hs:no≤n.old) (h:NQ w B n A G c):Calls Tryz.prog 49 #[ndv n A,.int .i64 no] w (GivesR w B c (releaseN n no)):=by
 have hR:releaseN n no=(n,2):=if_pos hs
 rw [hR]
 clear hR
 unfold GivesR
 have H9:=hide h9
 clear h9
 have hbw0:=below_one w (.cells (ndc n A) 30)
 have hlo:=h.o.lt
 have HNO:=hide (h.nine hB)
 clear h
 go_enter Tryz.func49,Tryz.ntmps49
 go_upto_region 1 with fail
 refine wp_at (fun W0 hW=>?_)
 obtain⟨e1,e2,e3⟩:=allocsE2 w (.cells (ndc n A) 30) (.cells zc9 30)
 rw [←hW] at e1 e2 e3
 have HN:=hide e1
 have HR:=hide e2
 have HB0:=hide e3
 have HN0:=hide ((unhide HNO).kc (k:=9) (KC.of_below e3) (by omega))
 clear hW e1 e2 e3 HNO hbw0 hlo
 obtain⟨c0,c1,c2,c3,c4,c5,c6,c7,c8⟩:=nine (unhide HN)
 have hnl:=obj_lt (unhide HN)
 have HRX:=hide (unhide HR)
 obtain⟨d0,d1,d2,d3,d4,d5,d6,d7,d8⟩:=nine (unhide HRX)
 have f0:=obj_free (unhide HRX) 0
 have f1:=obj_free (unhide HRX) 1
 have f2:=obj_free (unhide HRX) 2
 have f3:=obj_free (unhide HRX) 3
 have f4:=obj_free (unhide HRX) 4
 have f5:=obj_free (unhide HRX) 5
 have f6:=obj_free (unhide HRX) 6
 have f7:=obj_free (unhide HRX) 7
 have f8:=obj_free (unhide HRX) 8
 have hrl:=obj_lt (unhide HRX)
 go_wp2_with fail
 refine bodyPost_atN (fun W' hW'=>?_)
 have e4:W'.heap[w.heap.size+1]?=some (.cells #[.int .i64 n.id,.int .i64 n.par,.slice A.k n.kids.length A.ck,.int .i64 n.next,.slice A.p n.pu.length A.cp,.slice A.o n.out.length A.co,.slice A.s n.seen.length A.cs,.int .i64 n.old,.slice A.r n.reqs.length A.cr] 30 (0,0)):=by
  rw [hW']
  exact GR.setW_blk [.int .i64 n.id,.int .i64 n.par,.slice A.k n.kids.length A.ck,.int .i64 n.next,.slice A.p n.pu.length A.cp,.slice A.o n.out.length A.co,.slice A.s n.seen.length A.cs,.int .i64 n.old,.slice A.r n.reqs.length A.cr] (o:=0) (xs:=[.int .i64 0,.int .i64 0,.slice none 0 0,.int .i64 0,.slice none 0 0,.slice none 0 0,.slice none 0 0,.int .i64 0,.slice none 0 0]) (unhide HRX)
 have hkf:KeepsL [w.heap.size+1] W0 W':=by
  rw [hW']
  exact setW_keeps [.int .i64 n.id,.int .i64 n.par,.slice A.k n.kids.length A.ck,.int .i64 n.next,.slice A.p n.pu.length A.cp,.slice A.o n.out.length A.co,.slice A.s n.seen.length A.cs,.int .i64 n.old,.slice A.r n.reqs.length A.cr] W0 0
 have HAT:=hide (fun W'' (ho:Out c w W' W'')=>((unhide HN0).kc (k:=9) ((KC.keeps hkf (fun x hx=>by have:x=w.heap.size+1:=(by simpa using hx);rw [this];exact newC_new (by omega))).trans (KC.out (unhide H9) ho)) (by omega)).rm)
 have HBF:Hid (Below B w W'):=((unhide HB0).mono hB).trans (hkf.below (fun x hx=>by have:x=w.heap.size+1:=(by simpa using hx);omega) (Nat.le_trans hB ((unhide HB0).mono hB).size))
 have HKF:=hide (Apart.keeps (c:=c) (Apart.of_below ((unhide HB0))) ((unhide HB0).mono hB).size hkf (fun x hx=>by have:x=w.heap.size+1:=(by simpa using hx);omega))
 obtain⟨x0,x1,x2,x3,x4,x5,x6,x7,x8⟩:=nine e4
 clear hW' e4 hkf
 exact bodyPost_ret (v:= .tuple #[.agg #[.int .i64 n.id,.int .i64 n.par,.slice A.k n.kids.length A.ck,.int .i64 n.next,.slice A.p n.pu.length A.cp,.slice A.o n.out.length A.co,.slice A.s n.seen.length A.cs,.int .i64 n.old,.slice A.r n.reqs.length A.cr],.int .i64 2]) (by simp[results,Tryz.results49,go_sem,x0,x1,x2,x3,x4,x5,x6,x7,x8]) rfl ⟨A,rfl,unhide HAT,unhide HBF,unhide HKF⟩
theorem specRel_none (n:Nd) (A:Ads) (G:Blks) (c:Nat→Nat) (no:Int) (w:World) (B:Nat) (hB:B≤w.heap.size) (h9:∀x,6 < c x→c x=9) (hok:reqsB n=true) (hs:¬no≤n.old) (hf:reqF n.reqs no=false) (h:NQ w B n A G c):Calls Tryz.prog 49 #[ndv n A,.int .i64 no] w (GivesR w B c (releaseN n no)):=by
 have hR:releaseN n no=(n,1):=by unfold releaseN;rw [if_neg hs,if_pos hf]
 have hJ:reqJ n.reqs no= -1:=by unfold reqJ;rw [if_neg (by rw [hf];simp)]
 rw [hR]
 clear hR hf
 have hp:=reqs_asc hok
 have HRQ:=hide (fun W1 (ha:ReqAt W1 A.r n.reqs)=>specReq n A no W1 (by omega) hp.1 ha)
 rw [hJ] at HRQ
 clear hp hok
 unfold GivesR
 have H9:=hide h9
 clear h9
 have hbw0:=below_one w (.cells (ndc n A) 30)
 have hlo:=h.o.lt
 have HNO:=hide (h.nine hB)
 clear h
 go_enter Tryz.func49,Tryz.ntmps49
 go_upto_region 1 with fail
 refine wp_at (fun W0 hW=>?_)
 obtain⟨e1,e2,e3⟩:=allocsE2 w (.cells (ndc n A) 30) (.cells zc9 30)
 rw [←hW] at e1 e2 e3
 have HN:=hide e1
 have HR:=hide e2
 have HB0:=hide e3
 have HN0:=hide ((unhide HNO).kc (k:=9) (KC.of_below e3) (by omega))
 clear hW e1 e2 e3 HNO hbw0 hlo
 obtain⟨c0,c1,c2,c3,c4,c5,c6,c7,c8⟩:=nine (unhide HN)
 have hnl:=obj_lt (unhide HN)
 go_wp2_with fail
 refine(unhide HRQ W0 (unhide HN0).at.r).mono ?_
 rintro e W1 ⟨rfl,hb1⟩
 have HN_1:=hide (obj_step (unhide HN) hb1)
 have HRX:=hide (obj_step (unhide HR) hb1)
 have HB1:=hide ((unhide HB0).trans (hb1.mono (unhide HB0).size))
 have HN1:=hide ((unhide HN0).kc (k:=9) (KC.of_below hb1) (by omega))
 clear hb1 c0 c1 c2 c3 c4 c5 c6 c7 c8 hnl HRQ HN HR HN0 HB0
 obtain⟨c0,c1,c2,c3,c4,c5,c6,c7,c8⟩:=nine (unhide HN_1)
 obtain⟨d0,d1,d2,d3,d4,d5,d6,d7,d8⟩:=nine (unhide HRX)
 have f0:=obj_free (unhide HRX) 0
 have f1:=obj_free (unhide HRX) 1
 have f2:=obj_free (unhide HRX) 2
 have f3:=obj_free (unhide HRX) 3
 have f4:=obj_free (unhide HRX) 4
 have f5:=obj_free (unhide HRX) 5
 have f6:=obj_free (unhide HRX) 6
 have f7:=obj_free (unhide HRX) 7
 have f8:=obj_free (unhide HRX) 8
 have hnl:=obj_lt (unhide HN_1)
 have hrl:=obj_lt (unhide HRX)
 go_wp2_with fail
 refine bodyPost_atN (fun W' hW'=>?_)
 have e4:W'.heap[w.heap.size+1]?=some (.cells #[.int .i64 n.id,.int .i64 n.par,.slice A.k n.kids.length A.ck,.int .i64 n.next,.slice A.p n.pu.length A.cp,.slice A.o n.out.length A.co,.slice A.s n.seen.length A.cs,.int .i64 n.old,.slice A.r n.reqs.length A.cr] 30 (0,0)):=by
  rw [hW']
  exact GR.setW_blk [.int .i64 n.id,.int .i64 n.par,.slice A.k n.kids.length A.ck,.int .i64 n.next,.slice A.p n.pu.length A.cp,.slice A.o n.out.length A.co,.slice A.s n.seen.length A.cs,.int .i64 n.old,.slice A.r n.reqs.length A.cr] (o:=0) (xs:=[.int .i64 0,.int .i64 0,.slice none 0 0,.int .i64 0,.slice none 0 0,.slice none 0 0,.slice none 0 0,.int .i64 0,.slice none 0 0]) (unhide HRX)
 have hkf:KeepsL [w.heap.size+1] W1 W':=by
  rw [hW']
  exact setW_keeps [.int .i64 n.id,.int .i64 n.par,.slice A.k n.kids.length A.ck,.int .i64 n.next,.slice A.p n.pu.length A.cp,.slice A.o n.out.length A.co,.slice A.s n.seen.length A.cs,.int .i64 n.old,.slice A.r n.reqs.length A.cr] W1 0
 have HAT:=hide (fun W'' (ho:Out c w W' W'')=>((unhide HN1).kc (k:=9) ((KC.keeps hkf (fun x hx=>by have:x=w.heap.size+1:=(by simpa using hx);rw [this];exact newC_new (by omega))).trans (KC.out (unhide H9) ho)) (by omega)).rm)
 have HBF:Hid (Below B w W'):=((unhide HB1).mono hB).trans (hkf.below (fun x hx=>by have:x=w.heap.size+1:=(by simpa using hx);omega) (Nat.le_trans hB ((unhide HB1).mono hB).size))
 have HKF:=hide (Apart.keeps (c:=c) (Apart.of_below ((unhide HB1))) ((unhide HB1).mono hB).size hkf (fun x hx=>by have:x=w.heap.size+1:=(by simpa using hx);omega))
 obtain⟨x0,x1,x2,x3,x4,x5,x6,x7,x8⟩:=nine e4
 clear hW' e4 hkf
 exact bodyPost_ret (v:= .tuple #[.agg #[.int .i64 n.id,.int .i64 n.par,.slice A.k n.kids.length A.ck,.int .i64 n.next,.slice A.p n.pu.length A.cp,.slice A.o n.out.length A.co,.slice A.s n.seen.length A.cs,.int .i64 n.old,.slice A.r n.reqs.length A.cr],.int .i64 1]) (by simp[results,Tryz.results49,go_sem,x0,x1,x2,x3,x4,x5,x6,x7,x8]) rfl ⟨A,rfl,unhide HAT,unhide HBF,unhide HKF⟩
theorem specRel_ref (n:Nd) (a_k a_p a_o a_s a_r:Option Addr) (a_ck a_cp a_co a_cs a_cr:Nat) (G:Blks) (c:Nat→Nat) (no:Int) (w:World) (B:Nat) (hB:B≤w.heap.size) (h9:∀x,6 < c x→c x=9) (i:Nat) (hi:i < n.reqs.length) (hok:reqsB n=true) (hs:¬no≤n.old) (hJ:reqJ n.reqs no=i) (hR:releaseN n no=(n,1)) (hst:n.reqs[i].s=1) (h:NQ w B n (⟨a_k,a_p,a_o,a_s,a_r,a_ck,a_cp,a_co,a_cs,a_cr⟩:Ads) G c):Calls Tryz.prog 49 #[ndv n (⟨a_k,a_p,a_o,a_s,a_r,a_ck,a_cp,a_co,a_cs,a_cr⟩:Ads),.int .i64 no] w (GivesR w B c (releaseN n no)):=by
 rw [hR]
 have hiI:(i:Int) < (n.reqs.length:Int):=by omega
 have HST:=hide hst
 clear hR hst
 have hp:=reqs_asc hok
 have HRQ:=hide (fun W1 (ha:ReqAt W1 a_r n.reqs)=>specReq n (⟨a_k,a_p,a_o,a_s,a_r,a_ck,a_cp,a_co,a_cs,a_cr⟩:Ads) no W1 (by omega) hp.1 ha)
 rw [hJ] at HRQ
 clear hp hok
 unfold GivesR
 have H9:=hide h9
 clear h9
 have hbw0:=below_one w (.cells (ndc n (⟨a_k,a_p,a_o,a_s,a_r,a_ck,a_cp,a_co,a_cs,a_cr⟩:Ads)) 30)
 have hlo:=h.o.lt
 have HNO:=hide (h.nine hB)
 clear h
 go_enter Tryz.func49,Tryz.ntmps49
 go_upto_region 1 with fail
 refine wp_at (fun W0 hW=>?_)
 obtain⟨e1,e2,e3⟩:=allocsE2 w (.cells (ndc n (⟨a_k,a_p,a_o,a_s,a_r,a_ck,a_cp,a_co,a_cs,a_cr⟩:Ads)) 30) (.cells zc9 30)
 rw [←hW] at e1 e2 e3
 have HN:=hide e1
 have HR:=hide e2
 have HB0:=hide e3
 have HN0:=hide ((unhide HNO).kc (k:=9) (KC.of_below e3) (by omega))
 clear hW e1 e2 e3 HNO hbw0 hlo
 obtain⟨c0,c1,c2,c3,c4,c5,c6,c7,c8⟩:=nine (unhide HN)
 have hnl:=obj_lt (unhide HN)
 go_wp2_with fail
 refine(unhide HRQ W0 (unhide HN0).at.r).mono ?_
 rintro e W1 ⟨rfl,hb1⟩
 have HN_1:=hide (obj_step (unhide HN) hb1)
 have HRX:=hide (obj_step (unhide HR) hb1)
 have HB1:=hide ((unhide HB0).trans (hb1.mono (unhide HB0).size))
 have HN1:=hide ((unhide HN0).kc (k:=9) (KC.of_below hb1) (by omega))
 clear hb1 c0 c1 c2 c3 c4 c5 c6 c7 c8 hnl HRQ HN HR HN0 HB0
 obtain⟨g,off,e0,hg,q0,q1,q2,q3⟩:=ReqAt.four (unhide HN1).at.r i hi
 rw [unhide HST] at q3
 obtain⟨c0,c1,c2,c3,c4,c5,c6,c7,c8⟩:=nine (unhide HN_1)
 obtain⟨d0,d1,d2,d3,d4,d5,d6,d7,d8⟩:=nine (unhide HRX)
 have f0:=obj_free (unhide HRX) 0
 have f1:=obj_free (unhide HRX) 1
 have f2:=obj_free (unhide HRX) 2
 have f3:=obj_free (unhide HRX) 3
 have f4:=obj_free (unhide HRX) 4
 have f5:=obj_free (unhide HRX) 5
 have f6:=obj_free (unhide HRX) 6
 have f7:=obj_free (unhide HRX) 7
 have f8:=obj_free (unhide HRX) 8
 have hnl:=obj_lt (unhide HN_1)
 have hrl:=obj_lt (unhide HRX)
 clear q0 q1 q2 HST
 dsimp only at e0
 subst e0
 go_wp2_with fail
 refine bodyPost_atN (fun W' hW'=>?_)
 have e4:W'.heap[w.heap.size+1]?=some (.cells #[.int .i64 n.id,.int .i64 n.par,.slice a_k n.kids.length a_ck,.int .i64 n.next,.slice a_p n.pu.length a_cp,.slice a_o n.out.length a_co,.slice a_s n.seen.length a_cs,.int .i64 n.old,.slice (some ⟨g,off,none⟩) n.reqs.length a_cr] 30 (0,0)):=by
  rw [hW']
  exact GR.setW_blk [.int .i64 n.id,.int .i64 n.par,.slice a_k n.kids.length a_ck,.int .i64 n.next,.slice a_p n.pu.length a_cp,.slice a_o n.out.length a_co,.slice a_s n.seen.length a_cs,.int .i64 n.old,.slice (some ⟨g,off,none⟩) n.reqs.length a_cr] (o:=0) (xs:=[.int .i64 0,.int .i64 0,.slice none 0 0,.int .i64 0,.slice none 0 0,.slice none 0 0,.slice none 0 0,.int .i64 0,.slice none 0 0]) (unhide HRX)
 have hkf:KeepsL [w.heap.size+1] W1 W':=by
  rw [hW']
  exact setW_keeps [.int .i64 n.id,.int .i64 n.par,.slice a_k n.kids.length a_ck,.int .i64 n.next,.slice a_p n.pu.length a_cp,.slice a_o n.out.length a_co,.slice a_s n.seen.length a_cs,.int .i64 n.old,.slice (some ⟨g,off,none⟩) n.reqs.length a_cr] W1 0
 have HAT:=hide (fun W'' (ho:Out c w W' W'')=>((unhide HN1).kc (k:=9) ((KC.keeps hkf (fun x hx=>by have:x=w.heap.size+1:=(by simpa using hx);rw [this];exact newC_new (by omega))).trans (KC.out (unhide H9) ho)) (by omega)).rm)
 have HBF:Hid (Below B w W'):=((unhide HB1).mono hB).trans (hkf.below (fun x hx=>by have:x=w.heap.size+1:=(by simpa using hx);omega) (Nat.le_trans hB ((unhide HB1).mono hB).size))
 have HKF:=hide (Apart.keeps (c:=c) (Apart.of_below ((unhide HB1))) ((unhide HB1).mono hB).size hkf (fun x hx=>by have:x=w.heap.size+1:=(by simpa using hx);omega))
 obtain⟨x0,x1,x2,x3,x4,x5,x6,x7,x8⟩:=nine e4
 clear hW' e4 hkf
 exact bodyPost_ret (v:= .tuple #[.agg #[.int .i64 n.id,.int .i64 n.par,.slice a_k n.kids.length a_ck,.int .i64 n.next,.slice a_p n.pu.length a_cp,.slice a_o n.out.length a_co,.slice a_s n.seen.length a_cs,.int .i64 n.old,.slice (some ⟨g,off,none⟩) n.reqs.length a_cr],.int .i64 1]) (by simp[results,Tryz.results49,go_sem,x0,x1,x2,x3,x4,x5,x6,x7,x8]) rfl ⟨(⟨a_k,a_p,a_o,a_s,(some ⟨g,off,none⟩),a_ck,a_cp,a_co,a_cs,a_cr⟩:Ads),rfl,unhide HAT,unhide HBF,unhide HKF⟩
theorem specRel_again (n:Nd) (a_k a_p a_o a_s a_r:Option Addr) (a_ck a_cp a_co a_cs a_cr:Nat) (G:Blks) (c:Nat→Nat) (no:Int) (w:World) (B:Nat) (hB:B≤w.heap.size) (h9:∀x,6 < c x→c x=9) (i:Nat) (hi:i < n.reqs.length) (hok:reqsB n=true) (hs:¬no≤n.old) (hJ:reqJ n.reqs no=i) (hR:releaseN n no=(n,0)) (hst:n.reqs[i].s=2) (h:NQ w B n (⟨a_k,a_p,a_o,a_s,a_r,a_ck,a_cp,a_co,a_cs,a_cr⟩:Ads) G c):Calls Tryz.prog 49 #[ndv n (⟨a_k,a_p,a_o,a_s,a_r,a_ck,a_cp,a_co,a_cs,a_cr⟩:Ads),.int .i64 no] w (GivesR w B c (releaseN n no)):=by
 rw [hR]
 have hiI:(i:Int) < (n.reqs.length:Int):=by omega
 have HST:=hide hst
 clear hR hst
 have hp:=reqs_asc hok
 have HRQ:=hide (fun W1 (ha:ReqAt W1 a_r n.reqs)=>specReq n (⟨a_k,a_p,a_o,a_s,a_r,a_ck,a_cp,a_co,a_cs,a_cr⟩:Ads) no W1 (by omega) hp.1 ha)
 rw [hJ] at HRQ
 clear hp hok
 unfold GivesR
 have H9:=hide h9
 clear h9
 have hbw0:=below_one w (.cells (ndc n (⟨a_k,a_p,a_o,a_s,a_r,a_ck,a_cp,a_co,a_cs,a_cr⟩:Ads)) 30)
 have hlo:=h.o.lt
 have HNO:=hide (h.nine hB)
 clear h
 go_enter Tryz.func49,Tryz.ntmps49
 go_upto_region 1 with fail
 refine wp_at (fun W0 hW=>?_)
 obtain⟨e1,e2,e3⟩:=allocsE2 w (.cells (ndc n (⟨a_k,a_p,a_o,a_s,a_r,a_ck,a_cp,a_co,a_cs,a_cr⟩:Ads)) 30) (.cells zc9 30)
 rw [←hW] at e1 e2 e3
 have HN:=hide e1
 have HR:=hide e2
 have HB0:=hide e3
 have HN0:=hide ((unhide HNO).kc (k:=9) (KC.of_below e3) (by omega))
 clear hW e1 e2 e3 HNO hbw0 hlo
 obtain⟨c0,c1,c2,c3,c4,c5,c6,c7,c8⟩:=nine (unhide HN)
 have hnl:=obj_lt (unhide HN)
 go_wp2_with fail
 refine(unhide HRQ W0 (unhide HN0).at.r).mono ?_
 rintro e W1 ⟨rfl,hb1⟩
 have HN_1:=hide (obj_step (unhide HN) hb1)
 have HRX:=hide (obj_step (unhide HR) hb1)
 have HB1:=hide ((unhide HB0).trans (hb1.mono (unhide HB0).size))
 have HN1:=hide ((unhide HN0).kc (k:=9) (KC.of_below hb1) (by omega))
 clear hb1 c0 c1 c2 c3 c4 c5 c6 c7 c8 hnl HRQ HN HR HN0 HB0
 obtain⟨g,off,e0,hg,q0,q1,q2,q3⟩:=ReqAt.four (unhide HN1).at.r i hi
 rw [unhide HST] at q3
 obtain⟨c0,c1,c2,c3,c4,c5,c6,c7,c8⟩:=nine (unhide HN_1)
 obtain⟨d0,d1,d2,d3,d4,d5,d6,d7,d8⟩:=nine (unhide HRX)
 have f0:=obj_free (unhide HRX) 0
 have f1:=obj_free (unhide HRX) 1
 have f2:=obj_free (unhide HRX) 2
 have f3:=obj_free (unhide HRX) 3
 have f4:=obj_free (unhide HRX) 4
 have f5:=obj_free (unhide HRX) 5
 have f6:=obj_free (unhide HRX) 6
 have f7:=obj_free (unhide HRX) 7
 have f8:=obj_free (unhide HRX) 8
 have hnl:=obj_lt (unhide HN_1)
 have hrl:=obj_lt (unhide HRX)
 clear q0 q1 q2 HST
 dsimp only at e0
 subst e0
 go_wp2_with fail
 refine bodyPost_atN (fun W' hW'=>?_)
 have e4:W'.heap[w.heap.size+1]?=some (.cells #[.int .i64 n.id,.int .i64 n.par,.slice a_k n.kids.length a_ck,.int .i64 n.next,.slice a_p n.pu.length a_cp,.slice a_o n.out.length a_co,.slice a_s n.seen.length a_cs,.int .i64 n.old,.slice (some ⟨g,off,none⟩) n.reqs.length a_cr] 30 (0,0)):=by
  rw [hW']
  exact GR.setW_blk [.int .i64 n.id,.int .i64 n.par,.slice a_k n.kids.length a_ck,.int .i64 n.next,.slice a_p n.pu.length a_cp,.slice a_o n.out.length a_co,.slice a_s n.seen.length a_cs,.int .i64 n.old,.slice (some ⟨g,off,none⟩) n.reqs.length a_cr] (o:=0) (xs:=[.int .i64 0,.int .i64 0,.slice none 0 0,.int .i64 0,.slice none 0 0,.slice none 0 0,.slice none 0 0,.int .i64 0,.slice none 0 0]) (unhide HRX)
 have hkf:KeepsL [w.heap.size+1] W1 W':=by
  rw [hW']
  exact setW_keeps [.int .i64 n.id,.int .i64 n.par,.slice a_k n.kids.length a_ck,.int .i64 n.next,.slice a_p n.pu.length a_cp,.slice a_o n.out.length a_co,.slice a_s n.seen.length a_cs,.int .i64 n.old,.slice (some ⟨g,off,none⟩) n.reqs.length a_cr] W1 0
 have HAT:=hide (fun W'' (ho:Out c w W' W'')=>((unhide HN1).kc (k:=9) ((KC.keeps hkf (fun x hx=>by have:x=w.heap.size+1:=(by simpa using hx);rw [this];exact newC_new (by omega))).trans (KC.out (unhide H9) ho)) (by omega)).rm)
 have HBF:Hid (Below B w W'):=((unhide HB1).mono hB).trans (hkf.below (fun x hx=>by have:x=w.heap.size+1:=(by simpa using hx);omega) (Nat.le_trans hB ((unhide HB1).mono hB).size))
 have HKF:=hide (Apart.keeps (c:=c) (Apart.of_below ((unhide HB1))) ((unhide HB1).mono hB).size hkf (fun x hx=>by have:x=w.heap.size+1:=(by simpa using hx);omega))
 obtain⟨x0,x1,x2,x3,x4,x5,x6,x7,x8⟩:=nine e4
 clear hW' e4 hkf
 exact bodyPost_ret (v:= .tuple #[.agg #[.int .i64 n.id,.int .i64 n.par,.slice a_k n.kids.length a_ck,.int .i64 n.next,.slice a_p n.pu.length a_cp,.slice a_o n.out.length a_co,.slice a_s n.seen.length a_cs,.int .i64 n.old,.slice (some ⟨g,off,none⟩) n.reqs.length a_cr],.int .i64 0]) (by simp[results,Tryz.results49,go_sem,x0,x1,x2,x3,x4,x5,x6,x7,x8]) rfl ⟨(⟨a_k,a_p,a_o,a_s,(some ⟨g,off,none⟩),a_ck,a_cp,a_co,a_cs,a_cr⟩:Ads),rfl,unhide HAT,unhide HBF,unhide HKF⟩
theorem specRel_let_false (n:Nd) (a_k a_p a_o a_s a_r:Option Addr) (a_ck a_cp a_co a_cs a_cr:Nat) (G:Blks) (c:Nat→Nat) (no:Int) (w:World) (B:Nat) (hB:B≤w.heap.size) (h9:∀x,6 < c x→c x=9) (i:Nat) (hi:i < n.reqs.length) (hz:NdSz n 1048576) (hP:∃g,a_p=some ⟨g,0,none⟩) (hPc:n.pu.length≤a_cp) (hok:reqsB n=true) (hs:¬no≤n.old) (hJ:reqJ n.reqs no=i) (RL:List Pu) (hR:releaseN n no=(n,1)) (hst:n.reqs[i].s=0) (hu:addP n.pu n.reqs[i].k 0 1 (-1) n.reqs[i].n=(RL,false)) (h:NQ w B n (⟨a_k,a_p,a_o,a_s,a_r,a_ck,a_cp,a_co,a_cs,a_cr⟩:Ads) G c):Calls Tryz.prog 49 #[ndv n (⟨a_k,a_p,a_o,a_s,a_r,a_ck,a_cp,a_co,a_cs,a_cr⟩:Ads),.int .i64 no] w (GivesR w B c (releaseN n no)):=by
 rw [hR]
 obtain⟨gp,hgp⟩:=hP
 subst hgp
 have hiI:(i:Int) < (n.reqs.length:Int):=by omega
 have HST:=hide hst
 have HUN:=hide (fun W (ha:PursesAt W (some ⟨gp,0,none⟩) n.pu)=>specUnspend gp 0 a_cp n.pu n.reqs[i].k n.reqs[i].n W (Nat.le_trans hz.p (by omega)) hPc hz.pk (hz.rk _ (List.getElem_mem hi)) ha)
 unfold GivesO at HUN
 rw [hu] at HUN
 clear hR hst hz hPc hu
 have hp:=reqs_asc hok
 have HRQ:=hide (fun W1 (ha:ReqAt W1 a_r n.reqs)=>specReq n (⟨a_k,(some ⟨gp,0,none⟩),a_o,a_s,a_r,a_ck,a_cp,a_co,a_cs,a_cr⟩:Ads) no W1 (by omega) hp.1 ha)
 rw [hJ] at HRQ
 clear hp hok
 unfold GivesR
 have H9:=hide h9
 clear h9
 have hbw0:=below_one w (.cells (ndc n (⟨a_k,(some ⟨gp,0,none⟩),a_o,a_s,a_r,a_ck,a_cp,a_co,a_cs,a_cr⟩:Ads)) 30)
 have hlo:=h.o.lt
 have HNO:=hide (h.nine hB)
 clear h
 go_enter Tryz.func49,Tryz.ntmps49
 go_upto_region 1 with fail
 refine wp_at (fun W0 hW=>?_)
 obtain⟨e1,e2,e3⟩:=allocsE2 w (.cells (ndc n (⟨a_k,(some ⟨gp,0,none⟩),a_o,a_s,a_r,a_ck,a_cp,a_co,a_cs,a_cr⟩:Ads)) 30) (.cells zc9 30)
 rw [←hW] at e1 e2 e3
 have HN:=hide e1
 have HR:=hide e2
 have HB0:=hide e3
 have HN0:=hide ((unhide HNO).kc (k:=9) (KC.of_below e3) (by omega))
 clear hW e1 e2 e3 HNO hbw0 hlo
 obtain⟨c0,c1,c2,c3,c4,c5,c6,c7,c8⟩:=nine (unhide HN)
 have hnl:=obj_lt (unhide HN)
 go_wp2_with fail
 refine(unhide HRQ W0 (unhide HN0).at.r).mono ?_
 rintro e W1 ⟨rfl,hb1⟩
 have HN_1:=hide (obj_step (unhide HN) hb1)
 have HRX:=hide (obj_step (unhide HR) hb1)
 have HB1:=hide ((unhide HB0).trans (hb1.mono (unhide HB0).size))
 have HN1:=hide ((unhide HN0).kc (k:=9) (KC.of_below hb1) (by omega))
 clear hb1 c0 c1 c2 c3 c4 c5 c6 c7 c8 hnl HRQ HN HR HN0 HB0
 obtain⟨g,e0,hBg,hgb⟩:∃g,a_r=some ⟨g,0,none⟩∧B≤g∧(∀x,(Value.slice a_r n.reqs.length a_cr).ownBlock=some x↔x=g):=by
  obtain⟨g,rest,e,hb,_⟩:=own_blk (unhide HN1).r (show 0 < n.reqs.length by omega)
  exact⟨g,e,hb,fun x=>by rw [show a_r=some ⟨g,0,none⟩ from e];simp[Value.ownBlock,eq_comm]⟩
 obtain⟨g',off,e0',hg,q0,q1,q2,q3⟩:=ReqAt.four (unhide HN1).at.r i hi
 rw [e0] at e0'
 simp only[Option.some.injEq,Addr.mk.injEq,and_true] at e0'
 obtain⟨rfl,rfl⟩:=e0'
 rw [Nat.zero_add] at q0 q1 q2 q3
 rw [unhide HST] at q3
 obtain⟨c0,c1,c2,c3,c4,c5,c6,c7,c8⟩:=nine (unhide HN_1)
 obtain⟨d0,d1,d2,d3,d4,d5,d6,d7,d8⟩:=nine (unhide HRX)
 have f0:=obj_free (unhide HRX) 0
 have f1:=obj_free (unhide HRX) 1
 have f2:=obj_free (unhide HRX) 2
 have f3:=obj_free (unhide HRX) 3
 have f4:=obj_free (unhide HRX) 4
 have f5:=obj_free (unhide HRX) 5
 have f6:=obj_free (unhide HRX) 6
 have f7:=obj_free (unhide HRX) 7
 have f8:=obj_free (unhide HRX) 8
 have hnl:=obj_lt (unhide HN_1)
 have hrl:=obj_lt (unhide HRX)
 first|dsimp only at e0|skip
 subst e0
 have HQ3:=hide q3
 have HQS:=hide (And.intro q0 (And.intro q1 (And.intro q2 q3)))
 generalize n.reqs[i].k=qk at *
 generalize n.reqs[i].n=qn at *
 go_upto_region 8 with fail
 have y4:=cell_regrown c4
 have y8:=cell_regrown c8
 have z1:=cell_regrown q1
 have z2:=cell_regrown q2
 clear c0 c1 c2 c3 c4 c5 c6 c7 c8 d0 d1 d2 d3 d4 d5 d6 d7 d8 f0 f1 f2 f3 f4 f5 f6 f7 f8 q0 q1 q2 q3
 refine wp_region_mix (by kernel_rfl) ?_
 show wpMix _ _ _ _ 20 (Array.replicate 20 false) _ _
 refine wpMix_take 0 rfl (by kernel_rfl) (by kernel_rfl) (by kernel_rfl) (fun _ _ _ _ h=>h) (fun K hK=>?_)
 go_simp
 first
  |(refine hK _ ?_;clear hK K)
  |(apply Exists.intro
    refine⟨fun _=>?_,hK _ ?_⟩
    (fail)
    clear hK K)
 refine wpMix_take 1 rfl (by kernel_rfl) (by kernel_rfl) (by kernel_rfl) (fun _ _ _ _ h=>h) (fun K hK=>?_)
 go_simp
 first
  |(refine hK _ ?_;clear hK K)
  |(apply Exists.intro
    refine⟨fun _=>?_,hK _ ?_⟩
    (fail)
    clear hK K)
 refine wpMix_take 2 rfl (by kernel_rfl) (by kernel_rfl) (by kernel_rfl) (fun _ _ _ _ h=>h) (fun K hK=>?_)
 go_simp
 first
  |(refine hK _ ?_;clear hK K)
  |(apply Exists.intro
    refine⟨fun _=>?_,hK _ ?_⟩
    (fail)
    clear hK K)
 refine wpMix_take 3 rfl (by kernel_rfl) (by kernel_rfl) (by kernel_rfl) (fun _ _ _ _ h=>h) (fun K hK=>?_)
 go_simp
 first
  |(refine hK _ ?_;clear hK K)
  |(apply Exists.intro
    refine⟨fun _=>?_,hK _ ?_⟩
    (fail)
    clear hK K)
 refine wpMix_take 4 rfl (by kernel_rfl) (by kernel_rfl) (by kernel_rfl) (fun _ _ _ _ h=>h) (fun K hK=>?_)
 go_simp
 first
  |(refine hK _ ?_;clear hK K)
  |(apply Exists.intro
    refine⟨fun _=>?_,hK _ ?_⟩
    (fail)
    clear hK K)
 refine wpMix_take 5 rfl (by kernel_rfl) (by kernel_rfl) (by kernel_rfl) (fun _ _ _ _ h=>h) (fun K hK=>?_)
 go_simp
 first
  |(refine hK _ ?_;clear hK K)
  |(apply Exists.intro
    refine⟨fun _=>?_,hK _ ?_⟩
    (fail)
    clear hK K)
 refine wpMix_take 6 rfl (by kernel_rfl) (by kernel_rfl) (by kernel_rfl) (fun _ _ _ _ h=>h) (fun K hK=>?_)
 go_simp
 first
  |(refine hK _ ?_;clear hK K)
  |(apply Exists.intro
    refine⟨fun _=>?_,hK _ ?_⟩
    (fail)
    clear hK K)
 refine wpMix_take 7 rfl (by kernel_rfl) (by kernel_rfl) (by kernel_rfl) (fun _ _ _ _ h=>h) (fun K hK=>?_)
 go_simp
 first
  |(refine hK _ ?_;clear hK K)
  |(apply Exists.intro
    refine⟨fun _=>?_,hK _ ?_⟩
    (fail)
    clear hK K)
 refine wpMix_take 8 rfl (by kernel_rfl) (by kernel_rfl) (by kernel_rfl) (fun _ _ _ _ h=>h) (fun K hK=>?_)
 go_simp
 first
  |(refine hK _ ?_;clear hK K)
  |(apply Exists.intro
    refine⟨fun _=>?_,hK _ ?_⟩
    (fail)
    clear hK K)
 refine wpMix_take 9 rfl (by kernel_rfl) (by kernel_rfl) (by kernel_rfl) (fun _ _ _ _ h=>h) (fun K hK=>?_)
 go_simp
 first
  |(refine hK _ ?_;clear hK K)
  |(apply Exists.intro
    refine⟨fun _=>?_,hK _ ?_⟩
    (fail)
    clear hK K)
 refine wpMix_take 10 rfl (by kernel_rfl) (by kernel_rfl) (by kernel_rfl) (fun _ _ _ _ h=>h) (fun K hK=>?_)
 go_simp
 first
  |(refine hK _ ?_;clear hK K)
  |(apply Exists.intro
    refine⟨fun _=>?_,hK _ ?_⟩
    (fail)
    clear hK K)
 refine wpMix_take 11 rfl (by kernel_rfl) (by kernel_rfl) (by kernel_rfl) (fun _ _ _ _ h=>h) (fun K hK=>?_)
 go_simp
 first
  |(refine hK _ ?_;clear hK K)
  |(apply Exists.intro
    refine⟨fun _=>?_,hK _ ?_⟩
    (fail)
    clear hK K)
 refine wpMix_take 12 rfl (by kernel_rfl) (by kernel_rfl) (by kernel_rfl) (fun _ _ _ _ h=>h) (fun K hK=>?_)
 go_simp
 first
  |(refine hK _ ?_;clear hK K)
  |(apply Exists.intro
    refine⟨fun _=>?_,hK _ ?_⟩
    (fail)
    clear hK K)
 refine wpMix_take 13 rfl (by kernel_rfl) (by kernel_rfl) (by kernel_rfl) (fun _ _ _ _ h=>h) (fun K hK=>?_)
 go_simp
 first
  |(refine hK _ ?_;clear hK K)
  |(apply Exists.intro
    refine⟨fun _=>?_,hK _ ?_⟩
    (fail)
    clear hK K)
 clear y4 y8 z1 z2
 refine wpMix_one 14 rfl (by kernel_rfl) (by rfl) (fun x hx=>?_)
 go_simp
 refine(unhide HUN x (GR.At.below (unhide HN1).at.p hx)).mono ?_
 rintro e y ⟨v,rfl,hne,hrow,hby⟩
 refine⟨hby,?_⟩
 obtain⟨av,cv,rfl,_⟩:=GR.own_at (enc:=encP) (sz:=4) encP_length hrow
 have HRW:=hide hrow
 have HXY:=hide (Ge.trans hx hby)
 have hxs:=hx.size
 clear hx hby hne hrow HUN
 refine wpMix_take 15 rfl (by kernel_rfl) (by kernel_rfl) (by kernel_rfl) (fun _ _ _ _ h=>h) (fun K hK=>?_)
 go_simp
 first
  |(refine hK _ ?_;clear hK K)
  |(apply Exists.intro
    refine⟨fun _=>?_,hK _ ?_⟩
    (fail)
    clear hK K)
 refine wpMix_take 16 rfl (by kernel_rfl) (by kernel_rfl) (by kernel_rfl) (fun _ _ _ _ h=>h) (fun K hK=>?_)
 go_simp
 first
  |(refine hK _ ?_;clear hK K)
  |(apply Exists.intro
    refine⟨fun _=>?_,hK _ ?_⟩
    (fail)
    clear hK K)
 refine wpMix_take 17 rfl (by kernel_rfl) (by kernel_rfl) (by kernel_rfl) (fun _ _ _ _ h=>h) (fun K hK=>?_)
 go_simp
 first
  |(refine hK _ ?_;clear hK K)
  |(apply Exists.intro
    refine⟨fun _=>?_,hK _ ?_⟩
    (fail)
    clear hK K)
 refine wpMix_take 18 rfl (by kernel_rfl) (by kernel_rfl) (by kernel_rfl) (fun _ _ _ _ h=>h) (fun K hK=>?_)
 go_simp
 first
  |(refine hK _ ?_;clear hK K)
  |(apply Exists.intro
    refine⟨fun _=>?_,hK _ ?_⟩
    (fail)
    clear hK K)
 refine wpMix_take 19 rfl (by kernel_rfl) (by kernel_rfl) (by kernel_rfl) (fun _ _ _ _ h=>h) (fun K hK=>?_)
 go_simp
 first
  |(refine hK _ ?_;clear hK K)
  |(apply Exists.intro
    refine⟨fun _=>?_,hK _ ?_⟩
    (fail)
    clear hK K)
 refine wpMix_done (by kernel_rfl) (fun z hz=>?_)
 have HZ:=hide (Ge.trans (unhide HXY) hz)
 have HRZ:=hide (GR.own_below (unhide HRW) hz)
 have HN_Z:=hide (obj_step (unhide HN_1) (unhide HZ))
 have HRX2:=hide (obj_step (unhide HRX) (unhide HZ))
 have HNZ:=hide ((unhide HN1).kc (k:=9) (KC.of_below (unhide HZ)) (by omega))
 have HBZ:=hide ((unhide HB1).trans ((unhide HZ).mono (unhide HB1).size))
 have hgz:g < z.heap.size:=Nat.lt_of_lt_of_le hg (unhide HZ).size
 clear hz HXY HRW
 go_simp
 obtain⟨c0,c1,c2,c3,c4,c5,c6,c7,c8⟩:=nine (unhide HN_Z)
 obtain⟨d0,d1,d2,d3,d4,d5,d6,d7,d8⟩:=nine (unhide HRX2)
 have f0:=obj_free (unhide HRX2) 0
 have f1:=obj_free (unhide HRX2) 1
 have f2:=obj_free (unhide HRX2) 2
 have f3:=obj_free (unhide HRX2) 3
 have f4:=obj_free (unhide HRX2) 4
 have f5:=obj_free (unhide HRX2) 5
 have f6:=obj_free (unhide HRX2) 6
 have f7:=obj_free (unhide HRX2) 7
 have f8:=obj_free (unhide HRX2) 8
 have hnl:=obj_lt (unhide HN_Z)
 have hrl:=obj_lt (unhide HRX2)
 go_wp2_with fail
 refine bodyPost_atN (fun W' hW'=>?_)
 have e4:W'.heap[w.heap.size+1]?=some (.cells #[.int .i64 n.id,.int .i64 n.par,.slice a_k n.kids.length a_ck,.int .i64 n.next,.slice (some ⟨gp,0,none⟩) n.pu.length a_cp,.slice a_o n.out.length a_co,.slice a_s n.seen.length a_cs,.int .i64 n.old,.slice (some ⟨g,0,none⟩) n.reqs.length a_cr] 30 (0,0)):=by
  rw [hW']
  exact GR.setW_blk [.int .i64 n.id,.int .i64 n.par,.slice a_k n.kids.length a_ck,.int .i64 n.next,.slice (some ⟨gp,0,none⟩) n.pu.length a_cp,.slice a_o n.out.length a_co,.slice a_s n.seen.length a_cs,.int .i64 n.old,.slice (some ⟨g,0,none⟩) n.reqs.length a_cr] (o:=0) (xs:=[.int .i64 0,.int .i64 0,.slice none 0 0,.int .i64 0,.slice none 0 0,.slice none 0 0,.slice none 0 0,.int .i64 0,.slice none 0 0]) (unhide HRX2)
 have hkf:KeepsL [w.heap.size+1] z W':=by
  rw [hW']
  exact setW_keeps [.int .i64 n.id,.int .i64 n.par,.slice a_k n.kids.length a_ck,.int .i64 n.next,.slice (some ⟨gp,0,none⟩) n.pu.length a_cp,.slice a_o n.out.length a_co,.slice a_s n.seen.length a_cs,.int .i64 n.old,.slice (some ⟨g,0,none⟩) n.reqs.length a_cr] z 0
 have HAT:=hide (fun W'' (ho:Out c w W' W'')=>((unhide HNZ).kc (k:=9) ((KC.keeps hkf (fun x hx=>by have:x=w.heap.size+1:=(by simpa using hx);rw [this];exact newC_new (by omega))).trans (KC.out (unhide H9) ho)) (by omega)).rm)
 have HBF:Hid (Below B w W'):=((unhide HBZ).mono hB).trans (hkf.below (fun x hx=>by have:x=w.heap.size+1:=(by simpa using hx);omega) (Nat.le_trans hB ((unhide HBZ).mono hB).size))
 have HKF:=hide (Apart.keeps (c:=c) (Apart.of_below (unhide HBZ)) ((unhide HBZ).mono hB).size hkf (fun x hx=>by have:x=w.heap.size+1:=(by simpa using hx);omega))
 obtain⟨x0,x1,x2,x3,x4,x5,x6,x7,x8⟩:=nine e4
 clear hW' e4 hkf
 exact bodyPost_ret (v:= .tuple #[.agg #[.int .i64 n.id,.int .i64 n.par,.slice a_k n.kids.length a_ck,.int .i64 n.next,.slice (some ⟨gp,0,none⟩) n.pu.length a_cp,.slice a_o n.out.length a_co,.slice a_s n.seen.length a_cs,.int .i64 n.old,.slice (some ⟨g,0,none⟩) n.reqs.length a_cr],.int .i64 1]) (by simp[results,Tryz.results49,go_sem,x0,x1,x2,x3,x4,x5,x6,x7,x8]) rfl ⟨(⟨a_k,(some ⟨gp,0,none⟩),a_o,a_s,(some ⟨g,0,none⟩),a_ck,a_cp,a_co,a_cs,a_cr⟩:Ads),rfl,unhide HAT,unhide HBF,unhide HKF⟩
theorem specRel_let_true (n:Nd) (a_k a_p a_o a_s a_r:Option Addr) (a_ck a_cp a_co a_cs a_cr:Nat) (G:Blks) (c:Nat→Nat) (no:Int) (w:World) (B:Nat) (hB:B≤w.heap.size) (h9:∀x,6 < c x→c x=9) (i:Nat) (hi:i < n.reqs.length) (hz:NdSz n 1048576) (hP:∃g,a_p=some ⟨g,0,none⟩) (hPc:n.pu.length≤a_cp) (hok:reqsB n=true) (hs:¬no≤n.old) (hJ:reqJ n.reqs no=i) (RL:List Pu) (hR:releaseN n no=(setReqs (setPu n RL) (n.reqs.set i (relQ n.reqs[i])),0)) (hst:n.reqs[i].s=0) (hu:addP n.pu n.reqs[i].k 0 1 (-1) n.reqs[i].n=(RL,true)) (h:NQ w B n (⟨a_k,a_p,a_o,a_s,a_r,a_ck,a_cp,a_co,a_cs,a_cr⟩:Ads) G c):Calls Tryz.prog 49 #[ndv n (⟨a_k,a_p,a_o,a_s,a_r,a_ck,a_cp,a_co,a_cs,a_cr⟩:Ads),.int .i64 no] w (GivesR w B c (releaseN n no)):=by
 rw [hR]
 obtain⟨gp,hgp⟩:=hP
 subst hgp
 have hiI:(i:Int) < (n.reqs.length:Int):=by omega
 have HST:=hide hst
 have HUN:=hide (fun W (ha:PursesAt W (some ⟨gp,0,none⟩) n.pu)=>specUnspend gp 0 a_cp n.pu n.reqs[i].k n.reqs[i].n W (Nat.le_trans hz.p (by omega)) hPc hz.pk (hz.rk _ (List.getElem_mem hi)) ha)
 unfold GivesO at HUN
 rw [hu] at HUN
 clear hR hst hz hPc hu
 have hp:=reqs_asc hok
 have HRQ:=hide (fun W1 (ha:ReqAt W1 a_r n.reqs)=>specReq n (⟨a_k,(some ⟨gp,0,none⟩),a_o,a_s,a_r,a_ck,a_cp,a_co,a_cs,a_cr⟩:Ads) no W1 (by omega) hp.1 ha)
 rw [hJ] at HRQ
 clear hp hok
 unfold GivesR
 have H9:=hide h9
 clear h9
 have hbw0:=below_one w (.cells (ndc n (⟨a_k,(some ⟨gp,0,none⟩),a_o,a_s,a_r,a_ck,a_cp,a_co,a_cs,a_cr⟩:Ads)) 30)
 have hlo:=h.o.lt
 have HNO:=hide (h.nine hB)
 clear h
 go_enter Tryz.func49,Tryz.ntmps49
 go_upto_region 1 with fail
 refine wp_at (fun W0 hW=>?_)
 obtain⟨e1,e2,e3⟩:=allocsE2 w (.cells (ndc n (⟨a_k,(some ⟨gp,0,none⟩),a_o,a_s,a_r,a_ck,a_cp,a_co,a_cs,a_cr⟩:Ads)) 30) (.cells zc9 30)
 rw [←hW] at e1 e2 e3
 have HN:=hide e1
 have HR:=hide e2
 have HB0:=hide e3
 have HN0:=hide ((unhide HNO).kc (k:=9) (KC.of_below e3) (by omega))
 clear hW e1 e2 e3 HNO hbw0 hlo
 obtain⟨c0,c1,c2,c3,c4,c5,c6,c7,c8⟩:=nine (unhide HN)
 have hnl:=obj_lt (unhide HN)
 go_wp2_with fail
 refine(unhide HRQ W0 (unhide HN0).at.r).mono ?_
 rintro e W1 ⟨rfl,hb1⟩
 have HN_1:=hide (obj_step (unhide HN) hb1)
 have HRX:=hide (obj_step (unhide HR) hb1)
 have HB1:=hide ((unhide HB0).trans (hb1.mono (unhide HB0).size))
 have HN1:=hide ((unhide HN0).kc (k:=9) (KC.of_below hb1) (by omega))
 clear hb1 c0 c1 c2 c3 c4 c5 c6 c7 c8 hnl HRQ HN HR HN0 HB0
 obtain⟨g,e0,hBg,hgb⟩:∃g,a_r=some ⟨g,0,none⟩∧B≤g∧(∀x,(Value.slice a_r n.reqs.length a_cr).ownBlock=some x↔x=g):=by
  obtain⟨g,rest,e,hb,_⟩:=own_blk (unhide HN1).r (show 0 < n.reqs.length by omega)
  exact⟨g,e,hb,fun x=>by rw [show a_r=some ⟨g,0,none⟩ from e];simp[Value.ownBlock,eq_comm]⟩
 obtain⟨g',off,e0',hg,q0,q1,q2,q3⟩:=ReqAt.four (unhide HN1).at.r i hi
 rw [e0] at e0'
 simp only[Option.some.injEq,Addr.mk.injEq,and_true] at e0'
 obtain⟨rfl,rfl⟩:=e0'
 rw [Nat.zero_add] at q0 q1 q2 q3
 rw [unhide HST] at q3
 obtain⟨c0,c1,c2,c3,c4,c5,c6,c7,c8⟩:=nine (unhide HN_1)
 obtain⟨d0,d1,d2,d3,d4,d5,d6,d7,d8⟩:=nine (unhide HRX)
 have f0:=obj_free (unhide HRX) 0
 have f1:=obj_free (unhide HRX) 1
 have f2:=obj_free (unhide HRX) 2
 have f3:=obj_free (unhide HRX) 3
 have f4:=obj_free (unhide HRX) 4
 have f5:=obj_free (unhide HRX) 5
 have f6:=obj_free (unhide HRX) 6
 have f7:=obj_free (unhide HRX) 7
 have f8:=obj_free (unhide HRX) 8
 have hnl:=obj_lt (unhide HN_1)
 have hrl:=obj_lt (unhide HRX)
 first|dsimp only at e0|skip
 subst e0
 have HQ3:=hide q3
 have HQS:=hide (And.intro q0 (And.intro q1 (And.intro q2 q3)))
 generalize n.reqs[i].k=qk at *
 generalize n.reqs[i].n=qn at *
 go_upto_region 8 with fail
 have y4:=cell_regrown c4
 have y8:=cell_regrown c8
 have z1:=cell_regrown q1
 have z2:=cell_regrown q2
 clear c0 c1 c2 c3 c4 c5 c6 c7 c8 d0 d1 d2 d3 d4 d5 d6 d7 d8 f0 f1 f2 f3 f4 f5 f6 f7 f8 q0 q1 q2 q3
 refine wp_region_mix (by kernel_rfl) ?_
 show wpMix _ _ _ _ 20 (Array.replicate 20 false) _ _
 refine wpMix_take 0 rfl (by kernel_rfl) (by kernel_rfl) (by kernel_rfl) (fun _ _ _ _ h=>h) (fun K hK=>?_)
 go_simp
 first
  |(refine hK _ ?_;clear hK K)
  |(apply Exists.intro
    refine⟨fun _=>?_,hK _ ?_⟩
    (fail)
    clear hK K)
 refine wpMix_take 1 rfl (by kernel_rfl) (by kernel_rfl) (by kernel_rfl) (fun _ _ _ _ h=>h) (fun K hK=>?_)
 go_simp
 first
  |(refine hK _ ?_;clear hK K)
  |(apply Exists.intro
    refine⟨fun _=>?_,hK _ ?_⟩
    (fail)
    clear hK K)
 refine wpMix_take 2 rfl (by kernel_rfl) (by kernel_rfl) (by kernel_rfl) (fun _ _ _ _ h=>h) (fun K hK=>?_)
 go_simp
 first
  |(refine hK _ ?_;clear hK K)
  |(apply Exists.intro
    refine⟨fun _=>?_,hK _ ?_⟩
    (fail)
    clear hK K)
 refine wpMix_take 3 rfl (by kernel_rfl) (by kernel_rfl) (by kernel_rfl) (fun _ _ _ _ h=>h) (fun K hK=>?_)
 go_simp
 first
  |(refine hK _ ?_;clear hK K)
  |(apply Exists.intro
    refine⟨fun _=>?_,hK _ ?_⟩
    (fail)
    clear hK K)
 refine wpMix_take 4 rfl (by kernel_rfl) (by kernel_rfl) (by kernel_rfl) (fun _ _ _ _ h=>h) (fun K hK=>?_)
 go_simp
 first
  |(refine hK _ ?_;clear hK K)
  |(apply Exists.intro
    refine⟨fun _=>?_,hK _ ?_⟩
    (fail)
    clear hK K)
 refine wpMix_take 5 rfl (by kernel_rfl) (by kernel_rfl) (by kernel_rfl) (fun _ _ _ _ h=>h) (fun K hK=>?_)
 go_simp
 first
  |(refine hK _ ?_;clear hK K)
  |(apply Exists.intro
    refine⟨fun _=>?_,hK _ ?_⟩
    (fail)
    clear hK K)
 refine wpMix_take 6 rfl (by kernel_rfl) (by kernel_rfl) (by kernel_rfl) (fun _ _ _ _ h=>h) (fun K hK=>?_)
 go_simp
 first
  |(refine hK _ ?_;clear hK K)
  |(apply Exists.intro
    refine⟨fun _=>?_,hK _ ?_⟩
    (fail)
    clear hK K)
 refine wpMix_take 7 rfl (by kernel_rfl) (by kernel_rfl) (by kernel_rfl) (fun _ _ _ _ h=>h) (fun K hK=>?_)
 go_simp
 first
  |(refine hK _ ?_;clear hK K)
  |(apply Exists.intro
    refine⟨fun _=>?_,hK _ ?_⟩
    (fail)
    clear hK K)
 refine wpMix_take 8 rfl (by kernel_rfl) (by kernel_rfl) (by kernel_rfl) (fun _ _ _ _ h=>h) (fun K hK=>?_)
 go_simp
 first
  |(refine hK _ ?_;clear hK K)
  |(apply Exists.intro
    refine⟨fun _=>?_,hK _ ?_⟩
    (fail)
    clear hK K)
 refine wpMix_take 9 rfl (by kernel_rfl) (by kernel_rfl) (by kernel_rfl) (fun _ _ _ _ h=>h) (fun K hK=>?_)
 go_simp
 first
  |(refine hK _ ?_;clear hK K)
  |(apply Exists.intro
    refine⟨fun _=>?_,hK _ ?_⟩
    (fail)
    clear hK K)
 refine wpMix_take 10 rfl (by kernel_rfl) (by kernel_rfl) (by kernel_rfl) (fun _ _ _ _ h=>h) (fun K hK=>?_)
 go_simp
 first
  |(refine hK _ ?_;clear hK K)
  |(apply Exists.intro
    refine⟨fun _=>?_,hK _ ?_⟩
    (fail)
    clear hK K)
 refine wpMix_take 11 rfl (by kernel_rfl) (by kernel_rfl) (by kernel_rfl) (fun _ _ _ _ h=>h) (fun K hK=>?_)
 go_simp
 first
  |(refine hK _ ?_;clear hK K)
  |(apply Exists.intro
    refine⟨fun _=>?_,hK _ ?_⟩
    (fail)
    clear hK K)
 refine wpMix_take 12 rfl (by kernel_rfl) (by kernel_rfl) (by kernel_rfl) (fun _ _ _ _ h=>h) (fun K hK=>?_)
 go_simp
 first
  |(refine hK _ ?_;clear hK K)
  |(apply Exists.intro
    refine⟨fun _=>?_,hK _ ?_⟩
    (fail)
    clear hK K)
 refine wpMix_take 13 rfl (by kernel_rfl) (by kernel_rfl) (by kernel_rfl) (fun _ _ _ _ h=>h) (fun K hK=>?_)
 go_simp
 first
  |(refine hK _ ?_;clear hK K)
  |(apply Exists.intro
    refine⟨fun _=>?_,hK _ ?_⟩
    (fail)
    clear hK K)
 clear y4 y8 z1 z2
 refine wpMix_one 14 rfl (by kernel_rfl) (by rfl) (fun x hx=>?_)
 go_simp
 refine(unhide HUN x (GR.At.below (unhide HN1).at.p hx)).mono ?_
 rintro e y ⟨v,rfl,hne,hrow,hby⟩
 refine⟨hby,?_⟩
 obtain⟨av,cv,rfl,_⟩:=GR.own_at (enc:=encP) (sz:=4) encP_length hrow
 have HRW:=hide hrow
 have HXY:=hide (Ge.trans hx hby)
 have hxs:=hx.size
 clear hx hby hne hrow HUN
 refine wpMix_take 15 rfl (by kernel_rfl) (by kernel_rfl) (by kernel_rfl) (fun _ _ _ _ h=>h) (fun K hK=>?_)
 go_simp
 first
  |(refine hK _ ?_;clear hK K)
  |(apply Exists.intro
    refine⟨fun _=>?_,hK _ ?_⟩
    (fail)
    clear hK K)
 refine wpMix_take 16 rfl (by kernel_rfl) (by kernel_rfl) (by kernel_rfl) (fun _ _ _ _ h=>h) (fun K hK=>?_)
 go_simp
 first
  |(refine hK _ ?_;clear hK K)
  |(apply Exists.intro
    refine⟨fun _=>?_,hK _ ?_⟩
    (fail)
    clear hK K)
 refine wpMix_take 17 rfl (by kernel_rfl) (by kernel_rfl) (by kernel_rfl) (fun _ _ _ _ h=>h) (fun K hK=>?_)
 go_simp
 first
  |(refine hK _ ?_;clear hK K)
  |(apply Exists.intro
    refine⟨fun _=>?_,hK _ ?_⟩
    (fail)
    clear hK K)
 refine wpMix_take 18 rfl (by kernel_rfl) (by kernel_rfl) (by kernel_rfl) (fun _ _ _ _ h=>h) (fun K hK=>?_)
 go_simp
 first
  |(refine hK _ ?_;clear hK K)
  |(apply Exists.intro
    refine⟨fun _=>?_,hK _ ?_⟩
    (fail)
    clear hK K)
 refine wpMix_take 19 rfl (by kernel_rfl) (by kernel_rfl) (by kernel_rfl) (fun _ _ _ _ h=>h) (fun K hK=>?_)
 go_simp
 first
  |(refine hK _ ?_;clear hK K)
  |(apply Exists.intro
    refine⟨fun _=>?_,hK _ ?_⟩
    (fail)
    clear hK K)
 refine wpMix_done (by kernel_rfl) (fun z hz=>?_)
 have HZ:=hide (Ge.trans (unhide HXY) hz)
 have HRZ:=hide (GR.own_below (unhide HRW) hz)
 have HN_Z:=hide (obj_step (unhide HN_1) (unhide HZ))
 have HRX2:=hide (obj_step (unhide HRX) (unhide HZ))
 have HNZ:=hide ((unhide HN1).kc (k:=9) (KC.of_below (unhide HZ)) (by omega))
 have HBZ:=hide ((unhide HB1).trans ((unhide HZ).mono (unhide HB1).size))
 have hgz:g < z.heap.size:=Nat.lt_of_lt_of_le hg (unhide HZ).size
 clear hz HXY HRW
 go_simp
 obtain⟨c0,c1,c2,c3,c4,c5,c6,c7,c8⟩:=nine (unhide HN_Z)
 obtain⟨d0,d1,d2,d3,d4,d5,d6,d7,d8⟩:=nine (unhide HRX2)
 have f0:=obj_free (unhide HRX2) 0
 have f1:=obj_free (unhide HRX2) 1
 have f2:=obj_free (unhide HRX2) 2
 have f3:=obj_free (unhide HRX2) 3
 have f4:=obj_free (unhide HRX2) 4
 have f5:=obj_free (unhide HRX2) 5
 have f6:=obj_free (unhide HRX2) 6
 have f7:=obj_free (unhide HRX2) 7
 have f8:=obj_free (unhide HRX2) 8
 have hnl:=obj_lt (unhide HN_Z)
 have hrl:=obj_lt (unhide HRX2)
 have q3z:z.cell? ⟨g,i*4+3,none⟩=some (.int .i64 0):=((unhide HZ).cell (p:=⟨g,i*4+3,none⟩) hg).trans (unhide HQ3)
 have g3:z.frozen? ⟨g,i*4+3,none⟩=false:=by
  obtain⟨g',rest,e',_,hb'⟩:=own_blk (unhide HNZ).r (show 0 < n.reqs.length by omega)
  simp only[Option.some.injEq,Addr.mk.injEq,and_true] at e'
  obtain rfl:=e'
  exact obj_free hb' _
 have f4n:=obj_free (unhide HN_Z) 4
 have hgn:g≠w.heap.size:=fun e=>by
  have h1:=(unhide HNZ).cr g ((hgb g).2 rfl)
  rw [e] at h1
  have h2:newC w.heap.size 9 c w.heap.size=9:=newC_new (Nat.le_refl _)
  rw [h2] at h1
  cases h1
 have hgr2:g≠w.heap.size+1:=fun e=>by
  have h1:=(unhide HNZ).cr g ((hgb g).2 rfl)
  rw [e] at h1
  have h2:newC w.heap.size 9 c (w.heap.size+1)=9:=newC_new (by omega)
  rw [h2] at h1
  cases h1
 go_upto_region 13 with fail
 refine wp_at (fun Z2 hZ=>?_)
 have HN_2:Hid (Z2.heap[w.heap.size]?=some (.cells #[.int .i64 n.id,.int .i64 n.par,.slice a_k n.kids.length a_ck,.int .i64 n.next,.slice av RL.length cv,.slice a_o n.out.length a_co,.slice a_s n.seen.length a_cs,.int .i64 n.old,.slice (some ⟨g,0,none⟩) n.reqs.length a_cr] 30 (0,0))):=by rw [hZ];exact(Below.heap_setCell _ _ _ _ (Ne.symm hgn)).trans (setN9 (unhide HN_Z))
 have HR_2:Hid (Z2.heap[w.heap.size+1]?=some (.cells zc9 30 (0,0))):=by rw [hZ];exact((Below.heap_setCell _ _ _ _ (Ne.symm hgr2)).trans (Below.heap_setCell _ _ _ _ (show w.heap.size+1≠w.heap.size by omega))).trans (unhide HRX2)
 have hNA:=(unhide HNZ).kc (k:=9) (KC.set (g:=w.heap.size) (i:=4) (v:= .slice av RL.length cv) (newC_new (Nat.le_refl _))) (by omega)
 have kB:KC (newC w.heap.size 9 c) 6 (z.setCell ⟨w.heap.size,4,none⟩ (.slice av RL.length cv)) Z2:=by rw [hZ];exact KC.set (hNA.cr g ((hgb g).2 rfl))
 have hwx:w.heap.size < x.heap.size∧g < x.heap.size:=by
  have:=obj_lt (unhide HN_1)
  omega
 have hpz:Z2.ownsRow x.heap.size 80 4 (.slice av RL.length cv) RL.length (GR.flat encP RL):=by
  rw [hZ]
  exact own_keepsL (own_keepsL (unhide HRZ) (KeepsL.set _) (fun y hy=>by have:y=w.heap.size:=(by simpa using hy);omega)) (KeepsL.set _) (fun y hy=>by have:y=g:=(by simpa using hy);omega)
 have hrz:=(hNA.r.stored (i*4+3) (.int .i64 2)).1
 rw [flat_rel 2 n.reqs i hi,←hZ] at hrz
 have HRW2:=hide (And.intro (kB.w hNA.k hNA.ck (by omega)) (And.intro hpz (And.intro (kB.own hNA.o hNA.co (by omega)) (And.intro (kB.seenQ hNA.sq hNA.c4 hNA.ci (by omega) (by omega)) hrz))))
 have HCL:=hide (And.intro hNA.ck (And.intro hNA.co (And.intro hNA.c4 (And.intro hNA.ci (And.intro hNA.cr hNA.ni)))))
 have HBZ2:Hid (Below B w Z2):=by
  have hg0:B≤g:=hBg
  rw [hZ]
  exact(((unhide HBZ).mono hB).setCell (p:=⟨w.heap.size,4,none⟩) hB _).setCell (p:=⟨g,i*4+3,none⟩) hg0 _
 have HKZ2:Hid (Apart c w Z2):=fun x hx hc=>by
  have hxg:x≠g:=fun e=>by
   have h1:=(unhide HNZ).cr g ((hgb g).2 rfl)
   rw [←e,newC_old hx] at h1
   omega
  rw [hZ]
  exact(Below.heap_setCell _ _ _ _ hxg).trans ((Below.heap_setCell _ _ _ _ (Nat.ne_of_lt hx)).trans ((unhide HBZ).block x hx))
 clear hZ hNA kB hpz hrz q3z g3 f4n c0 c1 c2 c3 c4 c5 c6 c7 c8 d0 d1 d2 d3 d4 d5 d6 d7 d8 f0 f1 f2 f3 f4 f5 f6 f7 f8 hnl hrl
 obtain⟨c0,c1,c2,c3,c4,c5,c6,c7,c8⟩:=nine (unhide HN_2)
 obtain⟨d0,d1,d2,d3,d4,d5,d6,d7,d8⟩:=nine (unhide HR_2)
 have f0:=obj_free (unhide HR_2) 0
 have f1:=obj_free (unhide HR_2) 1
 have f2:=obj_free (unhide HR_2) 2
 have f3:=obj_free (unhide HR_2) 3
 have f4:=obj_free (unhide HR_2) 4
 have f5:=obj_free (unhide HR_2) 5
 have f6:=obj_free (unhide HR_2) 6
 have f7:=obj_free (unhide HR_2) 7
 have f8:=obj_free (unhide HR_2) 8
 have hnl:=obj_lt (unhide HN_2)
 have hrl:=obj_lt (unhide HR_2)
 go_wp2_with fail
 refine bodyPost_atN (fun W' hW'=>?_)
 have e4:W'.heap[w.heap.size+1]?=some (.cells #[.int .i64 n.id,.int .i64 n.par,.slice a_k n.kids.length a_ck,.int .i64 n.next,.slice av RL.length cv,.slice a_o n.out.length a_co,.slice a_s n.seen.length a_cs,.int .i64 n.old,.slice (some ⟨g,0,none⟩) n.reqs.length a_cr] 30 (0,0)):=by
  rw [hW']
  exact GR.setW_blk [.int .i64 n.id,.int .i64 n.par,.slice a_k n.kids.length a_ck,.int .i64 n.next,.slice av RL.length cv,.slice a_o n.out.length a_co,.slice a_s n.seen.length a_cs,.int .i64 n.old,.slice (some ⟨g,0,none⟩) n.reqs.length a_cr] (o:=0) (xs:=[.int .i64 0,.int .i64 0,.slice none 0 0,.int .i64 0,.slice none 0 0,.slice none 0 0,.slice none 0 0,.int .i64 0,.slice none 0 0]) (unhide HR_2)
 have hkf:KeepsL [w.heap.size+1] Z2 W':=by
  rw [hW']
  exact setW_keeps [.int .i64 n.id,.int .i64 n.par,.slice a_k n.kids.length a_ck,.int .i64 n.next,.slice av RL.length cv,.slice a_o n.out.length a_co,.slice a_s n.seen.length a_cs,.int .i64 n.old,.slice (some ⟨g,0,none⟩) n.reqs.length a_cr] Z2 0
 have HAT:=hide (fun W'' (ho:Out c w W' W'')=>(show RM W'' ⟨a_k,av,a_o,a_s,(some ⟨g,0,none⟩),a_ck,cv,a_co,a_cs,a_cr⟩ (setReqs (setPu n RL) (n.reqs.set i (relQ n.reqs[i]))) from by
  have kF:KC (newC w.heap.size 9 c) 9 Z2 W'':=(KC.keeps hkf (fun y hy=>by have:y=w.heap.size+1:=(by simpa using hy);rw [this];exact newC_new (by omega))).trans (KC.out (unhide H9) ho)
  have hpF:W''.ownsRow x.heap.size 80 4 (.slice av RL.length cv) RL.length (GR.flat encP RL):=by
   obtain⟨F,hk,hF⟩:=ho
   exact own_keepsL (own_keepsL (unhide HRW2).2.1 hkf (fun y hy=>by have:y=w.heap.size+1:=(by simpa using hy);have:=obj_lt (unhide HRX);omega)) hk (fun y hy=>by have:=(hF y hy).1;have:=obj_lt (unhide HRX);omega)
  have hp9:∀g',av.map (fun y=>y.block)=some g'→6 < newC w.heap.size 9 c g':=fun g' hg'=>by
   have h1:=own_lo hpF (own_blkA hpF hg')
   have h2:=obj_lt (unhide HRX)
   rw [newC_new (by omega)]
   omega
  have hrF:W''.ownsRow B 56 4 (.slice (some ⟨g,0,none⟩) (n.reqs.set i (relQ n.reqs[i])).length a_cr) (n.reqs.set i (relQ n.reqs[i])).length (GR.flat encRq (n.reqs.set i (relQ n.reqs[i]))):=by
   rw [List.length_set]
   exact kF.own (unhide HRW2).2.2.2.2 (unhide HCL).2.2.2.2.1 (by omega)
  exact RM.of (n:=setReqs (setPu n RL) (n.reqs.set i (relQ n.reqs[i]))) (A:=⟨a_k,av,a_o,a_s,(some ⟨g,0,none⟩),a_ck,cv,a_co,a_cs,a_cr⟩) (c:=newC w.heap.size 9 c) (kF.w (unhide HRW2).1 (unhide HCL).1 (by omega)) (unhide HCL).1 (kF.seenQ (unhide HRW2).2.2.2.1 (unhide HCL).2.2.1 (unhide HCL).2.2.2.1 (by omega) (by omega)) (unhide HCL).2.2.1 (unhide HCL).2.2.2.1 (unhide HCL).2.2.2.2.2
   (GR.own_ati encP_length hpF) (fun g' hg' _=> .inr (hp9 g' hg')) (kF.own (unhide HRW2).2.2.1 (unhide HCL).2.1 (by omega)) (fun y hy=> .inl ((unhide HCL).2.1 y hy)) hrF (fun y hy=> .inl ((unhide HCL).2.2.2.2.1 y hy))
   (fun g' hg' _ h6=>⟨fun e=>by have:=(unhide HCL).2.1 g' e;omega,fun e=>by have:=(unhide HCL).2.2.2.2.1 g' e;omega⟩) (fun y hy h6=>by have:=(unhide HCL).2.1 y hy;omega)))
 have HBF:Hid (Below B w W'):=(unhide HBZ2).trans (hkf.below (fun x hx=>by have:x=w.heap.size+1:=(by simpa using hx);omega) (Nat.le_trans hB (unhide HBZ2).size))
 have HKF:=hide (Apart.keeps (c:=c) (unhide HKZ2) (unhide HBZ2).size hkf (fun x hx=>by have:x=w.heap.size+1:=(by simpa using hx);omega))
 obtain⟨x0,x1,x2,x3,x4,x5,x6,x7,x8⟩:=nine e4
 clear hW' e4 hkf
 exact bodyPost_ret (v:= .tuple #[.agg #[.int .i64 n.id,.int .i64 n.par,.slice a_k n.kids.length a_ck,.int .i64 n.next,.slice av RL.length cv,.slice a_o n.out.length a_co,.slice a_s n.seen.length a_cs,.int .i64 n.old,.slice (some ⟨g,0,none⟩) n.reqs.length a_cr],.int .i64 0]) (by simp[results,Tryz.results49,go_sem,x0,x1,x2,x3,x4,x5,x6,x7,x8]) rfl ⟨⟨a_k,av,a_o,a_s,(some ⟨g,0,none⟩),a_ck,cv,a_co,a_cs,a_cr⟩,by rw [show ndv (setReqs (setPu n RL) (n.reqs.set i (relQ n.reqs[i]))) ⟨a_k,av,a_o,a_s,(some ⟨g,0,none⟩),a_ck,cv,a_co,a_cs,a_cr⟩= .agg #[.int .i64 n.id,.int .i64 n.par,.slice a_k n.kids.length a_ck,.int .i64 n.next,.slice av RL.length cv,.slice a_o n.out.length a_co,.slice a_s n.seen.length a_cs,.int .i64 n.old,.slice (some ⟨g,0,none⟩) n.reqs.length a_cr] from by simp[ndv,ndc,setReqs,setPu]],unhide HAT,unhide HBF,unhide HKF⟩
theorem specRelease (n:Nd) (A:Ads) (G:Blks) (c:Nat→Nat) (no:Int) (w:World) (B:Nat) (hB:B≤w.heap.size) (h9:∀x,6 < c x→c x=9) (hz:NdSz n 1048576) (hP:∃g,A.p=some ⟨g,0,none⟩) (hPc:n.pu.length≤A.cp) (hok:reqsB n=true) (h:NQ w B n A G c):Calls Tryz.prog 49 #[ndv n A,.int .i64 no] w (GivesR w B c (releaseN n no)):=by
 by_cases hs:no≤n.old
 ·exact specRel_stale n A G c no w B hB h9 hs h
 cases hf:reqF n.reqs no with
 |false=>exact specRel_none n A G c no w B hB h9 hok hs hf h
 |true=>
  have hil:=((reqF_iff n.reqs no).1 hf).1
  have hgd:n.reqs.getD (reqI n.reqs no) default=n.reqs[reqI n.reqs no]:=by rw [List.getD_eq_getElem?_getD,List.getElem?_eq_getElem hil];rfl
  have hJ:reqJ n.reqs no=(reqI n.reqs no:Nat):=by unfold reqJ;rw [if_pos hf]
  obtain⟨_,_,_,_,b1,b2⟩:=reqB_parts ((reqs_asc hok).2.2.1 _ (List.getElem_mem hil))
  obtain⟨ak,ap,ao,az,ar,ck,cp,co,cs,cr⟩:=A
  by_cases s1:n.reqs[reqI n.reqs no].s=1
  ·exact specRel_ref n ak ap ao az ar ck cp co cs cr G c no w B hB h9 _ hil hok hs hJ (by unfold releaseN;rw [if_neg hs,if_neg (by rw [hf];simp),hgd,if_pos s1]) s1 h
  by_cases s2:n.reqs[reqI n.reqs no].s=2
  ·exact specRel_again n ak ap ao az ar ck cp co cs cr G c no w B hB h9 _ hil hok hs hJ (by unfold releaseN;rw [if_neg hs,if_neg (by rw [hf];simp),hgd,if_neg s1,if_pos s2]) s2 h
  obtain⟨R,hR⟩:∃R,addP n.pu n.reqs[reqI n.reqs no].k 0 1 (-1) n.reqs[reqI n.reqs no].n=R:=⟨_,rfl⟩
  obtain⟨RL,b⟩:=R
  have hrel:releaseN n no=if b=true then(setReqs (setPu n RL) (n.reqs.set (reqI n.reqs no) (relQ n.reqs[reqI n.reqs no])),0) else(n,1):=by
   unfold releaseN
   rw [if_neg hs,if_neg (by rw [hf];simp),hgd,if_neg s1,if_neg s2,hR]
  cases b with
  |false=>exact specRel_let_false n ak ap ao az ar ck cp co cs cr G c no w B hB h9 _ hil hz hP hPc hok hs hJ RL (by rw [hrel];simp) (by omega) hR h
  |true=>exact specRel_let_true n ak ap ao az ar ck cp co cs cr G c no w B hB h9 _ hil hz hP hPc hok hs hJ RL (by rw [hrel];simp) (by omega) hR h
end Go.Proofs.YtdlokncalhopoaaGreat
