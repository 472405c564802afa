/- Parts. -/
import Derived.Test.YtdlokncalhopoaaGreatPy30
import Derived.Test.YtdlokncalhopoaaGreatPy17
import Derived.Test.YtdlokncalhopoaaGreatPy31
import Derived.Deep.CutBlock
import Derived.Deep.AppendLies
namespace Go.Proofs.YtdlokncalhopoaaGreat
set_option maxHeartbeats 8000000
set_option maxRecDepth 100000
open Go.RowKit
open Mth
def Lies {α:Type} (en:α→List Value) (sz lo:Nat) (W:World) (a:Option Addr) (l:List α):Prop:=GR.At en sz W a l∧∀g off,a=some ⟨g,off,none⟩→lo≤g
theorem Lies.keeps {α:Type} {en:α→List Value} {sz lo:Nat} {W W':World} {a:Option Addr} {l:List α} {F:List Nat} (h:Lies en sz lo W a l) (hk:KeepsL F W W') (hF:∀x∈F,x < lo):Lies en sz lo W' a l:=
 ⟨fun i hi=>by
  obtain⟨g,off,e,hg,hc⟩:=h.1 i hi
  have hlo:=h.2 g off e
  have hb:=hk.block g hg (fun hm=>by have:=hF g hm;omega)
  exact⟨g,off,e,Nat.lt_of_lt_of_le hg hk.size,fun j hj=>(World.cell?_of_block (w:=W) hb).trans (hc j hj)⟩,h.2⟩
theorem Lies.below {α:Type} {en:α→List Value} {sz lo:Nat} {W W':World} {a:Option Addr} {l:List α} (h:Lies en sz lo W a l) (hb:Below W.heap.size W W'):Lies en sz lo W' a l:=⟨GR.At.below h.1 hb,h.2⟩
theorem Lies.lower {α:Type} {en:α→List Value} {sz lo lo':Nat} {W:World} {a:Option Addr} {l:List α} (h:Lies en sz lo W a l) (hl:lo'≤lo):Lies en sz lo' W a l:=⟨h.1,fun g off e=>Nat.le_trans hl (h.2 g off e)⟩
theorem Lies.out {α:Type} {en:α→List Value} {sz lo:Nat} {w W' W'':World} {a:Option Addr} {l:List α} {c:Nat→Nat} (h:Lies en sz lo W' a l) (hlo:w.heap.size≤lo) (ho:Out c w W' W''):GR.At en sz W'' a l:=by
 obtain⟨F,hk,hF⟩:=ho
 exact(h.keeps hk (fun x hx=>by have:=(hF x hx).1;omega)).1
theorem Lies.own {α:Type} {en:α→List Value} {sz lo:Nat} {W:World} {e:TypeId} {a:Option Addr} {cp:Nat} {l:List α} (hs:∀x,(en x).length=sz) (h:W.ownsRow lo e sz (.slice a l.length cp) l.length (GR.flat en l)):Lies en sz lo W a l:=by
 obtain⟨a',c',hv,hat⟩:=GR.own_at hs h
 simp only[Value.slice.injEq] at hv
 obtain⟨rfl,_,_⟩:=hv
 refine⟨hat,fun g off e'=>?_⟩
 subst e'
 exact(h.lt g rfl).1
def LO {α:Type} (e:TypeId) (en:α→List Value) (sz lo:Nat) (W:World) (a:Option Addr) (cp:Nat) (l:List α):Prop:=W.ownsRow lo e sz (.slice a l.length cp) l.length (GR.flat en l)
theorem LO.own {α:Type} {e:TypeId} {en:α→List Value} {sz lo:Nat} {W:World} {a:Option Addr} {cp:Nat} {l:List α} (h:W.ownsRow lo e sz (.slice a l.length cp) l.length (GR.flat en l)):LO e en sz lo W a cp l:=h
theorem LO.lies {α:Type} {e:TypeId} {en:α→List Value} {sz lo:Nat} {W:World} {a:Option Addr} {cp:Nat} {l:List α} (h:LO e en sz lo W a cp l) (hs:∀x,(en x).length=sz):Lies en sz lo W a l:=Lies.own hs h
theorem LO.keeps {α:Type} {e:TypeId} {en:α→List Value} {sz lo:Nat} {W W':World} {a:Option Addr} {cp:Nat} {l:List α} {F:List Nat} (h:LO e en sz lo W a cp l) (hk:KeepsL F W W') (hF:∀x∈F,x < lo):LO e en sz lo W' a cp l:=own_keepsL h hk hF
theorem LO.below {α:Type} {e:TypeId} {en:α→List Value} {sz lo:Nat} {W W':World} {a:Option Addr} {cp:Nat} {l:List α} (h:LO e en sz lo W a cp l) (hb:Below W.heap.size W W'):LO e en sz lo W' a cp l:=GR.own_below h hb
theorem LO.lower {α:Type} {e:TypeId} {en:α→List Value} {sz lo lo':Nat} {W:World} {a:Option Addr} {cp:Nat} {l:List α} (h:LO e en sz lo W a cp l) (hl:lo'≤lo):LO e en sz lo' W a cp l:=GR.own_lower h hl
theorem LO.out {α:Type} {e:TypeId} {en:α→List Value} {sz lo:Nat} {w W' W'':World} {a:Option Addr} {cp:Nat} {l:List α} {c:Nat→Nat} (h:LO e en sz lo W' a cp l) (hlo:w.heap.size≤lo) (ho:Out c w W' W''):LO e en sz lo W'' a cp l:=by
 obtain⟨F,hk,hF⟩:=ho
 exact h.keeps hk (fun x hx=>by have:=(hF x hx).1;omega)
theorem LO.lo {α:Type} {e:TypeId} {en:α→List Value} {sz lo:Nat} {W:World} {a:Option Addr} {cp x:Nat} {l:List α} (h:LO e en sz lo W a cp l) (hx:(Value.slice a l.length cp).ownBlock=some x):lo≤x:=own_lo h hx
theorem LO.ne {α β:Type} {e e':TypeId} {en:α→List Value} {en':β→List Value} {sz sz' lo lo':Nat} {W:World} {a a':Option Addr} {cp cp' x:Nat} {l:List α} {l':List β} (h:LO e en sz lo W a cp l) (h':LO e' en' sz' lo' W a' cp' l') (hne:e≠e') (hx:(Value.slice a l.length cp).ownBlock=some x):(Value.slice a' l'.length cp').ownBlock≠some x:=fun hx'=>by
 rcases h.2 with⟨hv,_⟩|⟨g,cap,cur,hv,_,hgg,_⟩
 ·rw [hv] at hx;simp[Value.ownBlock] at hx
 ·rcases h'.2 with⟨hv',_⟩|⟨g',cap',cur',hv',_,hgg',_⟩
  ·rw [hv'] at hx';simp[Value.ownBlock] at hx'
  ·rw [hv] at hx
   rw [hv'] at hx'
   have e1:g=x:=by simpa [Value.ownBlock] using hx
   have e2:g'=x:=by simpa [Value.ownBlock] using hx'
   rw [e1] at hgg
   rw [e2,hgg] at hgg'
   simp only[Option.some.injEq,Obj.cells.injEq] at hgg'
   exact hne hgg'.2.1
theorem GR.At.take {α:Type} {en:α→List Value} {sz:Nat} {w:World} {a:Option Addr} {l:List α} (h:GR.At en sz w a l) (k:Nat):GR.At en sz w a (l.take k):=fun i hi=>by
 have hi':i < l.length:=by rw [List.length_take] at hi;omega
 obtain⟨g,off,e,hg,hc⟩:=h i hi'
 exact⟨g,off,e,hg,fun j hj=>by rw [hc j hj,List.getElem_take]⟩
theorem GR.At.drop {α:Type} {en:α→List Value} {sz g0:Nat} {w:World} {l:List α} (h:GR.At en sz w (some ⟨g0,0,none⟩) l) (k:Nat):GR.At en sz w (some ⟨g0,k*sz,none⟩) (l.drop k):=fun i hi=>by
 have hi':k+i < l.length:=by rw [List.length_drop] at hi;omega
 obtain⟨g,off,e,hg,hc⟩:=h (k+i) hi'
 cases e
 exact⟨g0,k*sz,rfl,hg,fun j hj=>by rw [List.getElem_drop,←hc j hj,Nat.add_mul];congr 2;omega⟩
theorem obj_set {w:World} {g g' i:Nat} {o:Obj} (v:Value) (hne:g'≠g) (h:w.heap[g']?=some o):(w.setCell ⟨g,i,none⟩ v).heap[g']?=some o:=(Below.heap_setCell _ _ _ _ hne).trans h
theorem specAdm_keep_true (n:Nd) (a_k a_p a_o a_s a_r:Option Addr) (a_ck a_cp a_co a_cs a_cr:Nat) (G:Blks) (c:Nat→Nat) (K no:Int) (k:ByteArray) (nn mK mF mT mI mL:Int) (mk:ByteArray) (mN:Int) (w:World) (B:Nat) (hB:B≤w.heap.size) (h9:∀x,6 < c x→c x=9) (hz:NdSz n 1048576) (hkz:k.size≤1048576) (hP:∃g,a_p=some ⟨g,0,none⟩) (hPc:n.pu.length≤a_cp) (hR:∃g,a_r=some ⟨g,0,none⟩) (hRc:n.reqs.length≤a_cr) (hok:reqsB n=true) (hs:¬no≤n.old) (hf:reqF n.reqs no=false) (RL:List Pu) (hu:addP n.pu k 0 (-1) 1 nn=(RL,true)) (h:NQ w B n (⟨a_k,a_p,a_o,a_s,a_r,a_ck,a_cp,a_co,a_cs,a_cr⟩:Ads) G c):Calls Tryz.prog 48 #[ndv n (⟨a_k,a_p,a_o,a_s,a_r,a_ck,a_cp,a_co,a_cs,a_cr⟩:Ads),.agg #[.int .i64 K,.int .i64 no,.string k,.int .i64 nn,.int .i64 mK,.int .i64 mF,.int .i64 mT,.int .i64 mI,.int .i64 mL,.string mk,.int .i64 mN]] w (GivesR w B c (keepN (setPu n RL) ⟨no,k,nn,0⟩,0)):=by
 obtain⟨gp,hgp⟩:=hP
 obtain⟨gr,hgr⟩:=hR
 subst hgp
 subst hgr
 have HSP:=hide (fun W (ha:PursesAt W (some ⟨gp,0,none⟩) n.pu)=>specSpend gp 0 a_cp n.pu k nn W (Nat.le_trans hz.p (by omega)) hPc hz.pk hkz ha)
 unfold GivesO at HSP
 rw [hu] at HSP
 have hp:=reqs_asc hok
 have HRQ:=hide (fun W1 (ha:ReqAt W1 (some ⟨gr,0,none⟩) n.reqs)=>specReq n (⟨a_k,(some ⟨gp,0,none⟩),a_o,a_s,(some ⟨gr,0,none⟩),a_ck,a_cp,a_co,a_cs,a_cr⟩:Ads) no W1 (by omega) hp.1 ha)
 rw [show reqJ n.reqs no= -1 by unfold reqJ;rw [hf];rfl] at HRQ
 have HPW:=hide hp.1
 have hl30:=hp.2.1
 clear hp hok hf hu hkz hz hPc
 unfold GivesR
 have H9:=hide h9
 clear h9
 have HNO:=hide (h.nine hB)
 clear h
 go_enter Tryz.func48,Tryz.ntmps48
 go_upto_region 1 with fail
 refine wp_at (fun W0 hW=>?_)
 obtain⟨e1,e2,e3,e4⟩:=allocs3E w (.cells (ndc n (⟨a_k,(some ⟨gp,0,none⟩),a_o,a_s,(some ⟨gr,0,none⟩),a_ck,a_cp,a_co,a_cs,a_cr⟩:Ads)) 30) (.cells #[.int .i64 K,.int .i64 no,.string k,.int .i64 nn,.int .i64 mK,.int .i64 mF,.int .i64 mT,.int .i64 mI,.int .i64 mL,.string mk,.int .i64 mN] 48) (.cells zc9 30)
 rw [←hW] at e1 e2 e3 e4
 have HN:=hide e1
 have HO:=hide e2
 have HR:=hide e3
 have HB0:=hide e4
 have HN0:=hide ((unhide HNO).kc (k:=9) (KC.of_below e4) (by omega))
 clear hW e1 e2 e3 e4
 obtain⟨⟨p0,p1,p2,p3,p4,p5,p6,p7,p8,p9,p10⟩,_⟩:=eleven_at (unhide HO)
 obtain⟨c0,c1,c2,c3,c4,c5,c6,c7,c8⟩:=nine (unhide HN)
 have hol:=obj_lt (unhide HO)
 have hnl:=obj_lt (unhide HN)
 go_wp2_with fail
 refine(unhide HRQ W0 (unhide HN0).at.r).mono ?_
 rintro e W1 ⟨rfl,hb1⟩
 have HN_1:=hide (obj_step (unhide HN) hb1)
 have HO_1:=hide (obj_step (unhide HO) hb1)
 have HR_1:=hide (obj_step (unhide HR) hb1)
 have HB1:=hide ((unhide HB0).trans (hb1.mono (unhide HB0).size))
 clear hb1 c0 c1 c2 c3 c4 c5 c6 c7 c8 p0 p1 p2 p3 p4 p5 p6 p7 p8 p9 p10 hnl hol HRQ HN HO HR HN0 HB0
 obtain⟨⟨p0,p1,p2,p3,p4,p5,p6,p7,p8,p9,p10⟩,_⟩:=eleven_at (unhide HO_1)
 obtain⟨c0,c1,c2,c3,c4,c5,c6,c7,c8⟩:=nine (unhide HN_1)
 have hol:=obj_lt (unhide HO_1)
 have hnl:=obj_lt (unhide HN_1)
 have hrl:=obj_lt (unhide HR_1)
 go_upto_region 9 with fail
 refine wp_at (fun W2 hW2=>?_)
 have hbw2:=below_one W1 (.cells #[.int .i64 no,.string k,.int .i64 nn,.int .i64 1] 56)
 have hq2:=heap_alloc_new W1 (.cells #[.int .i64 no,.string k,.int .i64 nn,.int .i64 1] 56)
 rw [←hW2] at hbw2 hq2
 have HN_2:=hide (obj_step (unhide HN_1) hbw2)
 have HO_2:=hide (obj_step (unhide HO_1) hbw2)
 have HR_2:=hide (obj_step (unhide HR_1) hbw2)
 have HQ_2:=hide hq2
 have HB2:=hide ((unhide HB1).trans (hbw2.mono (unhide HB1).size))
 have hqb:w.heap.size+2 < W1.heap.size:=hrl
 clear hW2 hbw2 hq2 c0 c1 c2 c3 c4 c5 c6 c7 c8 p0 p1 p2 p3 p4 p5 p6 p7 p8 p9 p10 HN_1 HO_1 HR_1 HB1 hnl hol hrl
 obtain⟨⟨p0,p1,p2,p3,p4,p5,p6,p7,p8,p9,p10⟩,_⟩:=eleven_at (unhide HO_2)
 obtain⟨c0,c1,c2,c3,c4,c5,c6,c7,c8⟩:=nine (unhide HN_2)
 have hol:=obj_lt (unhide HO_2)
 have hnl:=obj_lt (unhide HN_2)
 have hql:=obj_lt (unhide HQ_2)
 go_wp2_with fail
 refine(unhide HSP W2 ((unhide HNO).kc (k:=9) (KC.of_below (unhide HB2)) (by omega)).at.p).mono ?_
 rintro e W3 ⟨v3,rfl,hne3,hrow3,hb3⟩
 obtain⟨av,cv,rfl,_⟩:=GR.own_at (enc:=encP) (sz:=4) encP_length hrow3
 have HRW:=hide (LO.own (en:=encP) hrow3)
 have HN_3:=hide (obj_step (unhide HN_2) hb3)
 have HO_3:=hide (obj_step (unhide HO_2) hb3)
 have HR_3:=hide (obj_step (unhide HR_2) hb3)
 have HQ_3:=hide (obj_step (unhide HQ_2) hb3)
 have HB3:=hide ((unhide HB2).trans (hb3.mono (unhide HB2).size))
 clear hb3 hne3 hrow3 HSP HN_2 HO_2 HR_2 HQ_2 HB2 c0 c1 c2 c3 c4 c5 c6 c7 c8 p0 p1 p2 p3 p4 p5 p6 p7 p8 p9 p10 hnl hol
 obtain⟨c0,c1,c2,c3,c4,c5,c6,c7,c8⟩:=nine (unhide HN_3)
 obtain⟨q0,q1,q2,q3⟩:=fourC (unhide HQ_3)
 have cf:=obj_free (unhide HN_3) 4
 have qf:=obj_free (unhide HQ_3) 3
 have hnl:=obj_lt (unhide HN_3)
 have hql3:=obj_lt (unhide HQ_3)
 go_upto_region 13 with fail
 refine wp_at (fun W4 hW4=>?_)
 have hne1:w.heap.size≠W1.heap.size:=by omega
 have HN_4:Hid (W4.heap[w.heap.size]?=some (.cells #[.int .i64 n.id,.int .i64 n.par,.slice a_k n.kids.length a_ck,.int .i64 n.next,.slice av RL.length cv,.slice a_o n.out.length a_co,.slice a_s n.seen.length a_cs,.int .i64 n.old,.slice (some ⟨gr,0,none⟩) n.reqs.length a_cr] 30 (0,0))):=by rw [hW4];exact obj_set _ hne1 (blk_setO (unhide HN_3) 4 _)
 have HQ_4:Hid (W4.heap[W1.heap.size]?=some (.cells #[.int .i64 no,.string k,.int .i64 nn,.int .i64 0] 56 (0,0))):=by rw [hW4];exact blk_setO (obj_set _ hne1.symm (unhide HQ_3)) 3 _
 have HO_4:Hid (W4.heap[w.heap.size+1]?=some (.cells #[.int .i64 K,.int .i64 no,.string k,.int .i64 nn,.int .i64 mK,.int .i64 mF,.int .i64 mT,.int .i64 mI,.int .i64 mL,.string mk,.int .i64 mN] 48 (0,0))):=by rw [hW4];exact obj_set _ (by omega) (obj_set _ (by omega) (unhide HO_3))
 have HR_4:Hid (W4.heap[w.heap.size+2]?=some (.cells zc9 30 (0,0))):=by rw [hW4];exact obj_set _ (by omega) (obj_set _ (by omega) (unhide HR_3))
 have HB4:Hid (Below w.heap.size w W4):=by rw [hW4];exact((unhide HB3).setCell (p:=⟨w.heap.size,4,none⟩) (Nat.le_refl _) _).setCell (p:=⟨W1.heap.size,3,none⟩) (by simp;omega) _
 have HP4:Hid (LO 80 encP 4 (w.heap.size+3) W4 av cv RL):=by
  rw [hW4]
  have hk:KeepsL [w.heap.size,W1.heap.size] W3 ((W3.setCell ⟨w.heap.size,4,none⟩ (.slice av RL.length cv)).setCell ⟨W1.heap.size,3,none⟩ (.int .i64 0)):=((KeepsL.set _).mono (by simp)).trans ((KeepsL.set _).mono (by simp))
  exact((unhide HRW).keeps hk (fun x hx=>by simp at hx;omega)).lower (by omega)
 clear hW4 HRW
 clear c0 c1 c2 c3 c4 c5 c6 c7 c8 q0 q1 q2 q3 cf qf HN_3 HO_3 HR_3 HQ_3 HB3
 have HA4:=hide ((unhide HNO).kc (k:=9) (KC.of_below (unhide HB4)) (by omega)).at.r
 obtain⟨c0,c1,c2,c3,c4,c5,c6,c7,c8⟩:=nine (unhide HN_4)
 obtain⟨⟨p0,p1,p2,p3,p4,p5,p6,p7,p8,p9,p10⟩,_⟩:=eleven_at (unhide HO_4)
 have hnl:=obj_lt (unhide HN_4)
 have hol:=obj_lt (unhide HO_4)
 have hile:=reqI_le n.reqs no
 go_upto_block 0 with fail
 go_cut [10] from 11 (fun i wx=>i= .int .i64 (reqI n.reqs no:Nat)∧Ge W4 wx)
 case first=>
  go_wp2_with fail
  go_loopw [10] (fun i wr=>∃j q:Nat,j≤n.reqs.length∧i= .int .i64 j∧(∀x (hx:x < n.reqs.length),x < j→n.reqs[x].no < no)∧wr=W4.drewN q) (fun i _=>n.reqs.length - (intOf i).toNat)
  case atStart=>exact⟨0,0,Nat.zero_le _,rfl,fun x hx h=>(by omega),rfl⟩
  case round=>
   obtain⟨j,q,hj,rfl,hlo,rfl⟩:=hrel
   have HLO:=hide hlo
   clear hlo
   by_cases hlt:j < n.reqs.length
   ·obtain⟨g',off',e0,hg',y0,_,_,_⟩:=ReqAt.four (unhide HA4) j hlt
    cases e0
    rw [Nat.zero_add] at y0
    have HUP:=hide (fun(h:no≤n.reqs[j].no)=>reqI_at (l:=n.reqs) (no:=no) (unhide HPW) (i:=j) hj (unhide HLO) (fun x hx hjx=>by
     rcases Nat.lt_or_eq_of_le hjx with h1|h1
     ·have:=List.pairwise_iff_getElem.1 (unhide HPW) j x hlt hx h1;omega
     ·subst h1;exact h))
    have HMORE:=hide (fun(h:n.reqs[j].no < no)=>show∀x (hx:x < n.reqs.length),x < j+1→n.reqs[x].no < no from fun x hx h2=>by
     by_cases e:x=j
     ·subst e;exact h
     ·exact unhide HLO x hx (by omega))
    generalize n.reqs[j].no=rn at *
    by_cases hcmp:rn < no
    ·go_wp2_with fail
     go_quiet (fail)
     go_wp2_with fail
     go_roundw
     case rel=>exact⟨j+1,_,by omega,by go_num,unhide HMORE hcmp,rfl⟩
     case measure=>simp[intOf];omega
    ·have hcmp':decide (rn < no)=false:=decide_eq_false hcmp
     have HJ:=hide (unhide HUP (by omega))
     go_wp2_with fail
     go_quiet (fail)
     go_wp2_with fail
     go_meet
     case rel=>exact⟨by rw [unhide HJ],⟨rfl,rfl,rfl,Nat.le_refl _,fun _ _=>rfl⟩⟩
   ·have hje:j=n.reqs.length:=by omega
    subst hje
    have HJ:=hide (reqI_at (l:=n.reqs) (no:=no) (unhide HPW) (i:=n.reqs.length) (Nat.le_refl _) (unhide HLO) (fun x hx hjx=>by omega))
    have hcmp':decide ((n.reqs.length:Int) < (n.reqs.length:Int))=false:=by simp
    go_wp2_with fail
    go_quiet (fail)
    go_wp2_with fail
    go_meet
    case rel=>exact⟨by rw [unhide HJ],⟨rfl,rfl,rfl,Nat.le_refl _,fun _ _=>rfl⟩⟩
 case rest=>
  obtain⟨rfl,hge⟩:=hcut
  have HN_5:=hide (obj_step (unhide HN_4) hge)
  have HR_5:=hide (obj_step (unhide HR_4) hge)
  have HQ_5:=hide (obj_step (unhide HQ_4) hge)
  have HB5:=hide ((unhide HB4).trans (hge.mono (unhide HB4).size))
  have HA5:=hide (GR.At.below (unhide HA4) hge)
  have HP5:=hide ((unhide HP4).below hge)
  clear HP4
  clear hge c0 c1 c2 c3 c4 c5 c6 c7 c8 p0 p1 p2 p3 p4 p5 p6 p7 p8 p9 p10 hnl hol HN_4 HO_4 HR_4 HQ_4 HB4 HA4
  obtain⟨c0,c1,c2,c3,c4,c5,c6,c7,c8⟩:=nine (unhide HN_5)
  obtain⟨q0,q1,q2,q3⟩:=fourC (unhide HQ_5)
  have hnl:=obj_lt (unhide HN_5)
  have hql5:=obj_lt (unhide HQ_5)
  have HIQ:=hide (show insQ n.reqs ⟨no,k,nn,0⟩=n.reqs.take (reqI n.reqs no)++⟨no,k,nn,0⟩::n.reqs.drop (reqI n.reqs no) from rfl)
  generalize reqI n.reqs no=pos at *
  obtain⟨IQ,hIQ0⟩:∃IQ,insQ n.reqs ⟨no,k,nn,0⟩=IQ:=⟨_,rfl⟩
  rw [hIQ0] at HIQ
  have HIN:=hide hIQ0
  clear hIQ0
  go_upto_region 16 with fail
  go_cut [10] from 11 (fun i wx=>i= .int .i64 pos∧∃va vc,(∃g,va=some ⟨g,0,none⟩)∧n.reqs.length+1≤vc∧wx.heap[w.heap.size]?=some (.cells #[.int .i64 n.id,.int .i64 n.par,.slice a_k n.kids.length a_ck,.int .i64 n.next,.slice av RL.length cv,.slice a_o n.out.length a_co,.slice a_s n.seen.length a_cs,.int .i64 n.old,.slice va (n.reqs.length+1) vc] 30 (0,0))∧wx.heap[w.heap.size+2]?=some (.cells zc9 30 (0,0))∧wx.heap[W1.heap.size]?=some (.cells #[.int .i64 no,.string k,.int .i64 nn,.int .i64 0] 56 (0,0))∧LO 56 encRq 4 (w.heap.size+3) wx va vc IQ∧LO 80 encP 4 (w.heap.size+3) wx av cv RL∧Below w.heap.size w wx)
  case first=>
   have hwb:wc.heap.size≤wc.heap.size:=Nat.le_refl _
   have y8:=cell_und hnl c8
   have z0:=cell_und hql5 q0
   have z1:=cell_und hql5 q1
   have z2:=cell_und hql5 q2
   have z3:=cell_und hql5 q3
   clear c0 c1 c2 c3 c4 c5 c6 c7 c8 q0 q1 q2 q3
   have hpc:pos≤a_cr:=by omega
   have HTL:=hide (show ReqAt wc (some ⟨gr,0,none⟩) (n.reqs.take pos) from GR.At.take (unhide HA5) pos)
   obtain⟨AD,hAD,hDR⟩:∃AD,(if a_cr=pos then some (⟨gr,0,none⟩:Addr) else some ⟨gr,pos*4,none⟩)=AD∧ReqAt wc AD (n.reqs.drop pos):=by
    by_cases hcz:a_cr=pos
    ·refine⟨_,rfl,?_⟩
     rw [show n.reqs.drop pos=[] by apply List.drop_eq_nil_of_le;omega]
     exact GR.at_nil _ _
    ·refine⟨_,rfl,?_⟩
     rw [if_neg hcz]
     exact GR.At.drop (unhide HA5) pos
   have HDR:=hide hDR
   clear hDR
   refine wp_region_mixB 15 wc.heap.size (by kernel_rfl) ?_
   show wpMixB _ _ _ _ _ _ 16 (Array.replicate 16 false) _ _
   refine wpMixB_take 1 20 hwb rfl (by kernel_rfl) (by kernel_rfl) (by kernel_rfl) (by kernel_rfl) (by kernel_rfl) (fun _ _ _ _ h=>h) (fun K hK=>?_)
   go_simp
   first
    |(refine hK _ ?_;clear hK K)
    |(apply Exists.intro
      refine⟨fun _=>?_,hK _ ?_⟩
      (first|rfl|(trace_state;fail))
      clear hK K)
   refine wpMixB_take 2 20 hwb rfl (by kernel_rfl) (by kernel_rfl) (by kernel_rfl) (by kernel_rfl) (by kernel_rfl) (fun _ _ _ _ h=>h) (fun K hK=>?_)
   go_simp
   first
    |(refine hK _ ?_;clear hK K)
    |(apply Exists.intro
      refine⟨fun _=>?_,hK _ ?_⟩
      (first|rfl|(trace_state;fail))
      clear hK K)
   refine wpMixB_take 3 20 hwb rfl (by kernel_rfl) (by kernel_rfl) (by kernel_rfl) (by kernel_rfl) (by kernel_rfl) (fun _ _ _ _ h=>h) (fun K hK=>?_)
   go_simp
   first
    |(refine hK _ ?_;clear hK K)
    |(apply Exists.intro
      refine⟨fun _=>?_,hK _ ?_⟩
      (first|rfl|(trace_state;fail))
      clear hK K)
   refine wpMixB_take 4 20 hwb rfl (by kernel_rfl) (by kernel_rfl) (by kernel_rfl) (by kernel_rfl) (by kernel_rfl) (fun _ _ _ _ h=>h) (fun K hK=>?_)
   go_simp
   first
    |(refine hK _ ?_;clear hK K)
    |(apply Exists.intro
      refine⟨fun _=>?_,hK _ ?_⟩
      (first|rfl|(trace_state;fail))
      clear hK K)
   refine wpMixB_take 6 20 hwb rfl (by kernel_rfl) (by kernel_rfl) (by kernel_rfl) (by kernel_rfl) (by kernel_rfl) (fun _ _ _ _ h=>h) (fun K hK=>?_)
   go_simp
   first
    |(refine hK _ ?_;clear hK K)
    |(apply Exists.intro
      refine⟨fun _=>?_,hK _ ?_⟩
      (first|rfl|(trace_state;fail))
      clear hK K)
   refine wpMixB_take 9 20 hwb rfl (by kernel_rfl) (by kernel_rfl) (by kernel_rfl) (by kernel_rfl) (by kernel_rfl) (fun _ _ _ _ h=>h) (fun K hK=>?_)
   go_simp
   first
    |(refine hK _ ?_;clear hK K)
    |(apply Exists.intro
      refine⟨fun _=>?_,hK _ ?_⟩
      (first|rfl|(trace_state;fail))
      clear hK K)
   refine wpMixB_take 10 20 hwb rfl (by kernel_rfl) (by kernel_rfl) (by kernel_rfl) (by kernel_rfl) (by kernel_rfl) (fun _ _ _ _ h=>h) (fun K hK=>?_)
   go_simp
   first
    |(refine hK _ ?_;clear hK K)
    |(apply Exists.intro
      refine⟨fun _=>?_,hK _ ?_⟩
      (first|rfl|(trace_state;fail))
      clear hK K)
   refine wpMixB_take 11 20 hwb rfl (by kernel_rfl) (by kernel_rfl) (by kernel_rfl) (by kernel_rfl) (by kernel_rfl) (fun _ _ _ _ h=>h) (fun K hK=>?_)
   go_simp
   first
    |(refine hK _ ?_;clear hK K)
    |(apply Exists.intro
      refine⟨fun _=>?_,hK _ ?_⟩
      (first|rfl|(trace_state;fail))
      clear hK K)
   refine wpMixB_take 12 20 hwb rfl (by kernel_rfl) (by kernel_rfl) (by kernel_rfl) (by kernel_rfl) (by kernel_rfl) (fun _ _ _ _ h=>h) (fun K hK=>?_)
   go_simp
   first
    |(refine hK _ ?_;clear hK K)
    |(apply Exists.intro
      refine⟨fun _=>?_,hK _ ?_⟩
      (first|rfl|(trace_state;fail))
      clear hK K)
   clear y8 z0 z1 z2 z3
   have hlt1:(n.reqs.take pos).length=pos:=by rw [List.length_take];omega
   have hld1:(n.reqs.drop pos).length=n.reqs.length - pos:=by rw [List.length_drop]
   have hL1:(n.reqs.take pos++[(⟨no,k,nn,0⟩:Rq)]).length=pos+1:=by rw [List.length_append,hlt1];rfl
   have hL2:(n.reqs.take pos++[(⟨no,k,nn,0⟩:Rq)]++n.reqs.drop pos).length=pos+1+(n.reqs.length - pos):=by rw [List.length_append,hL1,hld1]
   obtain⟨i0,hi,hz0,hz1,hz2⟩:=info_parts infoReq
   have HG0:=hide (Below.refl wc.heap.size wc)
   refine wpMixB_two 0 7 rfl rfl (by kernel_rfl) (by rfl) (by rfl) (by decide) (by decide) (fun x1 hx1=>?_) (fun x1 hx1=>?_)
   ·go_simp
    have HGx1:=hide ((unhide HG0).trans (hx1.mono (unhide HG0).size))
    have hsx1:wc.heap.size≤x1.heap.size:=(unhide HGx1).size
    clear hx1
    refine⟨(below_one x1 _).mono hsx1,?_⟩
    have hby1:=below_one x1 (.cells #[] 56)
    have HVy1:=hide (show(x1.alloc (.cells #[] 56)).ownsRow wc.heap.size 56 4 (.slice (some ⟨x1.heap.size,0,none⟩) 0 0) 0 (GR.flat encRq []) from World.ownsRow_lit (base:=wc.heap.size) (e:=56) (size:=4) x1 #[] 0 hsx1 (by unfold maxLen;omega) (by simp))
    have HGy1:=hide ((unhide HGx1).trans (hby1.mono (unhide HGx1).size))
    clear hby1
    generalize hyy1:x1.alloc (.cells #[] 56)=y1 at *
    clear hyy1
    refine wpMixB_two 5 7 rfl rfl (by kernel_rfl) (by rfl) (by rfl) (by decide) (by decide) (fun x2 hx2=>?_) (fun x2 hx2=>?_)
    ·have HGx2:=hide ((unhide HGy1).trans (hx2.mono (unhide HGy1).size))
     have hsx2:wc.heap.size≤x2.heap.size:=(unhide HGx2).size
     have HVx2:=hide (GR.own_below (unhide HVy1) hx2)
     clear hx2
     obtain⟨v2,y2,hry2,hoy2,hgy2,hwy2⟩:=run_append_row encRq_length (by omega) x2 wc.heap.size 28 28 56 i0 (.agg #[.int .i64 0,.string ByteArray.empty,.int .i64 0,.int .i64 0]) 40 Tryz.underlying28 hi hz0 hz1 hz2 rfl (.slice (some ⟨x1.heap.size,0,none⟩) 0 0) 0 (GR.flat encRq ([])) (unhide HVx2) (some ⟨gr,0,none⟩) (n.reqs.take pos) a_cr (GR.At.below (unhide HTL) (unhide HGx2)) (flatRq_one _) (by unfold maxLen;omega) (by omega) hsx2
     rw [hlt1] at hry2 hoy2
     refine Lib.wp_append_run x2 (.tmp 93) (.tmp 97) 28 28 rfl _ _ (by simp[Act.eval]) (by simp[Act.eval]) v2 y2 hry2 ?_
     refine⟨(Below.refl _ _).grown hgy2 hsx2 (fun b hb=>((unhide HVx2).lt b hb).1),?_⟩
     go_simp
     have HGy2:=hide ((unhide HGx2).grown hgy2 hsx2 (fun b hb=>((unhide HVx2).lt b hb).1))
     have HVy2:Hid (y2.ownsRow wc.heap.size 56 4 v2 (pos) (GR.flat encRq (n.reqs.take pos))):=hide (by simpa [GR.flat_nil] using hoy2)
     obtain⟨avR,cvR,hsly2,_⟩:=GR.own_at (enc:=encRq) (sz:=4) (l:=n.reqs.take pos) encRq_length (by rw [hlt1];exact unhide HVy2)
     rw [hlt1] at hsly2
     subst hsly2
     clear hry2 hoy2 hgy2 hwy2
     refine wpMixB_one 7 rfl (by kernel_rfl) (by rfl) (by decide) (fun x3 hx3=>?_)
     go_simp
     have HGx3:=hide ((unhide HGy2).trans (hx3.mono (unhide HGy2).size))
     have hsx3:wc.heap.size≤x3.heap.size:=(unhide HGx3).size
     have HVx3:=hide (GR.own_below (unhide HVy2) hx3)
     clear hx3
     refine⟨(below_one x3 _).mono hsx3,?_⟩
     have hby3:=below_one x3 (.cells #[.int .i64 no,.string k,.int .i64 nn,.int .i64 0] 56)
     have HQy3:=hide (heap_alloc_new x3 (.cells #[.int .i64 no,.string k,.int .i64 nn,.int .i64 0] 56))
     have HVy3:=hide (GR.own_below (unhide HVx3) hby3)
     have HEy3:=hide (show∀b,((.slice avR (pos) cvR:Value)).ownBlock=some b→b≠x3.heap.size from fun b hb=>by have:=((unhide HVx3).lt b hb).2;omega)
     have HGy3:=hide ((unhide HGx3).trans (hby3.mono (unhide HGx3).size))
     clear hby3
     generalize hyy3:x3.alloc (.cells #[.int .i64 no,.string k,.int .i64 nn,.int .i64 0] 56)=y3 at *
     clear hyy3
     generalize x3.heap.size=rb at *
     refine wpMixB_one 8 rfl (by kernel_rfl) (by rfl) (by decide) (fun x4 hx4=>?_)
     have HGx4:=hide ((unhide HGy3).trans (hx4.mono (unhide HGy3).size))
     have hsx4:wc.heap.size≤x4.heap.size:=(unhide HGx4).size
     have HVx4:=hide (GR.own_below (unhide HVy3) hx4)
     have HQx4:=hide (obj_step (unhide HQy3) hx4)
     clear hx4
     obtain⟨v4,y4,hry4,hoy4,hgy4,hwy4⟩:=run_append_where x4 wc.heap.size 28 28 56 i0 (.agg #[.int .i64 0,.string ByteArray.empty,.int .i64 0,.int .i64 0]) 4 40 Tryz.underlying28 hi hz0 hz1 hz2 rfl (by decide) (.slice avR (pos) cvR) (pos) (GR.flat encRq (n.reqs.take pos)) (unhide HVx4) ⟨rb,0,none⟩ 1 1 (encRq ⟨no,k,nn,0⟩) rfl (World.news_of_block (unhide HQx4)) (encRq_one _) (by unfold maxLen;omega) (by omega) hsx4
     refine Lib.wp_append_run x4 (.tmp 98) (.tmp 100) 28 28 rfl _ _ (by simp[Act.eval]) (by simp[Act.eval]) v4 y4 hry4 ?_
     refine⟨(Below.refl _ _).grown hgy4 hsx4 (fun b hb=>((unhide HVx4).lt b hb).1),?_⟩
     go_simp
     have HGy4:=hide ((unhide HGx4).grown hgy4 hsx4 (fun b hb=>((unhide HVx4).lt b hb).1))
     have HVy4:Hid (y4.ownsRow wc.heap.size 56 4 v4 (pos+1) (GR.flat encRq (n.reqs.take pos++[(⟨no,k,nn,0⟩:Rq)]))):=hide (by rw [GR.flat_append,GR.flat_one];exact hoy4)
     have HQy4:=hide (show y4.heap[rb]?=some (.cells #[.int .i64 no,.string k,.int .i64 nn,.int .i64 0] 56 (0,0)) from by rw [hgy4.block _ (obj_lt (unhide HQx4)) (fun hm=>unhide HEy3 _ hm.symm rfl)];exact unhide HQx4)
     have HEy4:=hide (show∀b,(v4).ownBlock=some b→b≠rb from fun b hb=>(hwy4 b hb).elim (fun h=>unhide HEy3 b h) (fun h=>by have:=obj_lt (unhide HQx4);omega))
     obtain⟨avO,cvO,hsly4,_⟩:=GR.own_at (enc:=encRq) (sz:=4) (l:=n.reqs.take pos++[(⟨no,k,nn,0⟩:Rq)]) encRq_length (by rw [hL1];exact unhide HVy4)
     rw [hL1] at hsly4
     subst hsly4
     clear hry4 hoy4 hgy4 hwy4
     refine wpMixB_one 13 rfl (by kernel_rfl) (by rfl) (by decide) (fun x5 hx5=>?_)
     have HGx5:=hide ((unhide HGy4).trans (hx5.mono (unhide HGy4).size))
     have hsx5:wc.heap.size≤x5.heap.size:=(unhide HGx5).size
     have HVx5:=hide (GR.own_below (unhide HVy4) hx5)
     have HQx5:=hide (obj_step (unhide HQy4) hx5)
     clear hx5
     obtain⟨v5,y5,hry5,hoy5,hgy5,hwy5⟩:=run_append_row encRq_length (by omega) x5 wc.heap.size 28 28 56 i0 (.agg #[.int .i64 0,.string ByteArray.empty,.int .i64 0,.int .i64 0]) 40 Tryz.underlying28 hi hz0 hz1 hz2 rfl (.slice avO (pos+1) cvO) (pos+1) (GR.flat encRq (n.reqs.take pos++[(⟨no,k,nn,0⟩:Rq)])) (unhide HVx5) AD (n.reqs.drop pos) (a_cr - pos) (GR.At.below (unhide HDR) (unhide HGx5)) (flatRq_one _) (by unfold maxLen;omega) (by omega) hsx5
     rw [hld1] at hry5 hoy5
     refine Lib.wp_append_run x5 (.tmp 101) (.tmp 105) 28 28 rfl _ _ (by simp[Act.eval]) (by simp[Act.eval]) v5 y5 hry5 ?_
     refine⟨(Below.refl _ _).grown hgy5 hsx5 (fun b hb=>((unhide HVx5).lt b hb).1),?_⟩
     go_simp
     have HGy5:=hide ((unhide HGx5).grown hgy5 hsx5 (fun b hb=>((unhide HVx5).lt b hb).1))
     have HVy5:Hid (y5.ownsRow wc.heap.size 56 4 v5 (pos+1+(n.reqs.length - pos)) (GR.flat encRq (n.reqs.take pos++[(⟨no,k,nn,0⟩:Rq)]++n.reqs.drop pos))):=hide (by rw [GR.flat_append];exact hoy5)
     have HQy5:=hide (show y5.heap[rb]?=some (.cells #[.int .i64 no,.string k,.int .i64 nn,.int .i64 0] 56 (0,0)) from by rw [hgy5.block _ (obj_lt (unhide HQx5)) (fun hm=>unhide HEy4 _ hm.symm rfl)];exact unhide HQx5)
     have HEy5:=hide (show∀b,(v5).ownBlock=some b→b≠rb from fun b hb=>(hwy5 b hb).elim (fun h=>unhide HEy4 b h) (fun h=>by have:=obj_lt (unhide HQx5);omega))
     obtain⟨avT,cvT,hsly5,_⟩:=GR.own_at (enc:=encRq) (sz:=4) (l:=n.reqs.take pos++[(⟨no,k,nn,0⟩:Rq)]++n.reqs.drop pos) encRq_length (by rw [hL2];exact unhide HVy5)
     rw [hL2] at hsly5
     subst hsly5
     clear hry5 hoy5 hgy5 hwy5
     have hwb2:wc.heap.size≤y5.heap.size:=(unhide HGy5).size
     refine wpMixB_take 14 20 hwb2 rfl (by kernel_rfl) (by kernel_rfl) (by kernel_rfl) (by kernel_rfl) (by kernel_rfl) (fun _ _ _ _ h=>h) (fun K hK=>?_)
     go_simp
     first
      |(refine hK _ ?_;clear hK K)
      |(apply Exists.intro
        refine⟨fun _=>?_,hK _ ?_⟩
        (first|rfl|(trace_state;fail))
        clear hK K)
     refine wpMixB_leave (by kernel_rfl) (fun z hz=>?_)
     have HGz:=hide ((unhide HGy5).trans (hz.mono (unhide HGy5).size))
     have HVz:=hide (GR.own_below (unhide HVy5) hz)
     have hsz:wc.heap.size≤z.heap.size:=(unhide HGz).size
     clear hz
     have HNz:Hid (z.heap[w.heap.size]?=some (.cells #[.int .i64 n.id,.int .i64 n.par,.slice a_k n.kids.length a_ck,.int .i64 n.next,.slice av RL.length cv,.slice a_o n.out.length a_co,.slice a_s n.seen.length a_cs,.int .i64 n.old,.slice (some ⟨gr,0,none⟩) n.reqs.length a_cr] 30 (0,0))):=by unfold Hid;rw [(unhide HGz).block _ hnl];exact unhide HN_5
     have HRz:Hid (z.heap[w.heap.size+2]?=some (.cells zc9 30 (0,0))):=by unfold Hid;rw [(unhide HGz).block _ (obj_lt (unhide HR_5))];exact unhide HR_5
     have HQz:Hid (z.heap[W1.heap.size]?=some (.cells #[.int .i64 no,.string k,.int .i64 nn,.int .i64 0] 56 (0,0))):=by unfold Hid;rw [(unhide HGz).block _ hql5];exact unhide HQ_5
     have kc:=(nine (unhide HNz)).2.2.2.2.2.2.2.2
     have kf:=obj_free (unhide HNz) 8
     refine wpAny_one 15 rfl (by kernel_rfl) (by rfl) ?_
     go_simp
     refine wpAny_done (by kernel_rfl) ?_
     go_simp
     go_wp2_with fail
     go_meet
     case rel=>
      refine⟨rfl,avT,cvT,?_,?_,?_,?_,?_,?_,?_,?_⟩
      ·rcases(unhide HVz).2 with⟨_,hn⟩|⟨g,cap,cur,hv,_⟩
       ·omega
       ·simp only[Value.slice.injEq] at hv
        exact⟨g,hv.1⟩
      ·rcases(unhide HVz).2 with⟨_,hn⟩|⟨g,cap,cur,hv,_,_,hnc,_⟩
       ·omega
       ·simp only[Value.slice.injEq] at hv
        omega
      ·have h:=blk_setO (unhide HNz) 8 (.slice avT (pos+1+(n.reqs.length - pos)) cvT)
       rw [show pos+1+(n.reqs.length - pos)=n.reqs.length+1 by omega] at h ⊢
       exact h
      ·exact obj_set _ (by omega) (unhide HRz)
      ·exact obj_set _ (by omega) (unhide HQz)
      ·have h:=LO.own (en:=encRq) (cp:=cvT) (l:=n.reqs.take pos++[(⟨no,k,nn,0⟩:Rq)]++n.reqs.drop pos) (by rw [hL2];exact unhide HVz)
       rw [unhide HIQ]
       rw [List.append_assoc] at h
       exact(h.keeps (KeepsL.set _) (fun x hx=>by simp at hx;omega)).lower (by omega)
      ·exact((unhide HP5).below (unhide HGz)).keeps (KeepsL.set _) (fun x hx=>by simp at hx;omega)
      ·exact((unhide HB5).trans ((unhide HGz).mono (unhide HB5).size)).setCell (p:=⟨w.heap.size,8,none⟩) (Nat.le_refl _) _
    ·go_simp
     have HGx2:=hide ((unhide HGy1).trans (hx2.mono (unhide HGy1).size))
     have hsx2:wc.heap.size≤x2.heap.size:=(unhide HGx2).size
     have HVx2:=hide (GR.own_below (unhide HVy1) hx2)
     clear hx2
     refine⟨(below_one x2 _).mono hsx2,?_⟩
     have hby2:=below_one x2 (.cells #[.int .i64 no,.string k,.int .i64 nn,.int .i64 0] 56)
     have HQy2:=hide (heap_alloc_new x2 (.cells #[.int .i64 no,.string k,.int .i64 nn,.int .i64 0] 56))
     have HVy2:=hide (GR.own_below (unhide HVx2) hby2)
     have HEy2:=hide (show∀b,((.slice (some ⟨x1.heap.size,0,none⟩) 0 0:Value)).ownBlock=some b→b≠x2.heap.size from fun b hb=>by have:=((unhide HVx2).lt b hb).2;omega)
     have HGy2:=hide ((unhide HGx2).trans (hby2.mono (unhide HGx2).size))
     clear hby2
     generalize hyy2:x2.alloc (.cells #[.int .i64 no,.string k,.int .i64 nn,.int .i64 0] 56)=y2 at *
     clear hyy2
     refine wpMixB_one 5 rfl (by kernel_rfl) (by rfl) (by decide) (fun x3 hx3=>?_)
     have HGx3:=hide ((unhide HGy2).trans (hx3.mono (unhide HGy2).size))
     have hsx3:wc.heap.size≤x3.heap.size:=(unhide HGx3).size
     have HVx3:=hide (GR.own_below (unhide HVy2) hx3)
     have HQx3:=hide (obj_step (unhide HQy2) hx3)
     clear hx3
     obtain⟨v3,y3,hry3,hoy3,hgy3,hwy3⟩:=run_append_row encRq_length (by omega) x3 wc.heap.size 28 28 56 i0 (.agg #[.int .i64 0,.string ByteArray.empty,.int .i64 0,.int .i64 0]) 40 Tryz.underlying28 hi hz0 hz1 hz2 rfl (.slice (some ⟨x1.heap.size,0,none⟩) 0 0) 0 (GR.flat encRq ([])) (unhide HVx3) (some ⟨gr,0,none⟩) (n.reqs.take pos) a_cr (GR.At.below (unhide HTL) (unhide HGx3)) (flatRq_one _) (by unfold maxLen;omega) (by omega) hsx3
     rw [hlt1] at hry3 hoy3
     refine Lib.wp_append_run x3 (.tmp 93) (.tmp 97) 28 28 rfl _ _ (by simp[Act.eval]) (by simp[Act.eval]) v3 y3 hry3 ?_
     refine⟨(Below.refl _ _).grown hgy3 hsx3 (fun b hb=>((unhide HVx3).lt b hb).1),?_⟩
     go_simp
     have HGy3:=hide ((unhide HGx3).grown hgy3 hsx3 (fun b hb=>((unhide HVx3).lt b hb).1))
     have HVy3:Hid (y3.ownsRow wc.heap.size 56 4 v3 (pos) (GR.flat encRq (n.reqs.take pos))):=hide (by simpa [GR.flat_nil] using hoy3)
     have HQy3:=hide (show y3.heap[x2.heap.size]?=some (.cells #[.int .i64 no,.string k,.int .i64 nn,.int .i64 0] 56 (0,0)) from by rw [hgy3.block _ (obj_lt (unhide HQx3)) (fun hm=>unhide HEy2 _ hm.symm rfl)];exact unhide HQx3)
     have HEy3:=hide (show∀b,(v3).ownBlock=some b→b≠x2.heap.size from fun b hb=>(hwy3 b hb).elim (fun h=>unhide HEy2 b h) (fun h=>by have:=obj_lt (unhide HQx3);omega))
     obtain⟨avR,cvR,hsly3,_⟩:=GR.own_at (enc:=encRq) (sz:=4) (l:=n.reqs.take pos) encRq_length (by rw [hlt1];exact unhide HVy3)
     rw [hlt1] at hsly3
     subst hsly3
     clear hry3 hoy3 hgy3 hwy3
     generalize x2.heap.size=rb at *
     refine wpMixB_one 8 rfl (by kernel_rfl) (by rfl) (by decide) (fun x4 hx4=>?_)
     have HGx4:=hide ((unhide HGy3).trans (hx4.mono (unhide HGy3).size))
     have hsx4:wc.heap.size≤x4.heap.size:=(unhide HGx4).size
     have HVx4:=hide (GR.own_below (unhide HVy3) hx4)
     have HQx4:=hide (obj_step (unhide HQy3) hx4)
     clear hx4
     obtain⟨v4,y4,hry4,hoy4,hgy4,hwy4⟩:=run_append_where x4 wc.heap.size 28 28 56 i0 (.agg #[.int .i64 0,.string ByteArray.empty,.int .i64 0,.int .i64 0]) 4 40 Tryz.underlying28 hi hz0 hz1 hz2 rfl (by decide) (.slice avR (pos) cvR) (pos) (GR.flat encRq (n.reqs.take pos)) (unhide HVx4) ⟨rb,0,none⟩ 1 1 (encRq ⟨no,k,nn,0⟩) rfl (World.news_of_block (unhide HQx4)) (encRq_one _) (by unfold maxLen;omega) (by omega) hsx4
     refine Lib.wp_append_run x4 (.tmp 98) (.tmp 100) 28 28 rfl _ _ (by simp[Act.eval]) (by simp[Act.eval]) v4 y4 hry4 ?_
     refine⟨(Below.refl _ _).grown hgy4 hsx4 (fun b hb=>((unhide HVx4).lt b hb).1),?_⟩
     go_simp
     have HGy4:=hide ((unhide HGx4).grown hgy4 hsx4 (fun b hb=>((unhide HVx4).lt b hb).1))
     have HVy4:Hid (y4.ownsRow wc.heap.size 56 4 v4 (pos+1) (GR.flat encRq (n.reqs.take pos++[(⟨no,k,nn,0⟩:Rq)]))):=hide (by rw [GR.flat_append,GR.flat_one];exact hoy4)
     have HQy4:=hide (show y4.heap[rb]?=some (.cells #[.int .i64 no,.string k,.int .i64 nn,.int .i64 0] 56 (0,0)) from by rw [hgy4.block _ (obj_lt (unhide HQx4)) (fun hm=>unhide HEy3 _ hm.symm rfl)];exact unhide HQx4)
     have HEy4:=hide (show∀b,(v4).ownBlock=some b→b≠rb from fun b hb=>(hwy4 b hb).elim (fun h=>unhide HEy3 b h) (fun h=>by have:=obj_lt (unhide HQx4);omega))
     obtain⟨avO,cvO,hsly4,_⟩:=GR.own_at (enc:=encRq) (sz:=4) (l:=n.reqs.take pos++[(⟨no,k,nn,0⟩:Rq)]) encRq_length (by rw [hL1];exact unhide HVy4)
     rw [hL1] at hsly4
     subst hsly4
     clear hry4 hoy4 hgy4 hwy4
     refine wpMixB_one 13 rfl (by kernel_rfl) (by rfl) (by decide) (fun x5 hx5=>?_)
     have HGx5:=hide ((unhide HGy4).trans (hx5.mono (unhide HGy4).size))
     have hsx5:wc.heap.size≤x5.heap.size:=(unhide HGx5).size
     have HVx5:=hide (GR.own_below (unhide HVy4) hx5)
     have HQx5:=hide (obj_step (unhide HQy4) hx5)
     clear hx5
     obtain⟨v5,y5,hry5,hoy5,hgy5,hwy5⟩:=run_append_row encRq_length (by omega) x5 wc.heap.size 28 28 56 i0 (.agg #[.int .i64 0,.string ByteArray.empty,.int .i64 0,.int .i64 0]) 40 Tryz.underlying28 hi hz0 hz1 hz2 rfl (.slice avO (pos+1) cvO) (pos+1) (GR.flat encRq (n.reqs.take pos++[(⟨no,k,nn,0⟩:Rq)])) (unhide HVx5) AD (n.reqs.drop pos) (a_cr - pos) (GR.At.below (unhide HDR) (unhide HGx5)) (flatRq_one _) (by unfold maxLen;omega) (by omega) hsx5
     rw [hld1] at hry5 hoy5
     refine Lib.wp_append_run x5 (.tmp 101) (.tmp 105) 28 28 rfl _ _ (by simp[Act.eval]) (by simp[Act.eval]) v5 y5 hry5 ?_
     refine⟨(Below.refl _ _).grown hgy5 hsx5 (fun b hb=>((unhide HVx5).lt b hb).1),?_⟩
     go_simp
     have HGy5:=hide ((unhide HGx5).grown hgy5 hsx5 (fun b hb=>((unhide HVx5).lt b hb).1))
     have HVy5:Hid (y5.ownsRow wc.heap.size 56 4 v5 (pos+1+(n.reqs.length - pos)) (GR.flat encRq (n.reqs.take pos++[(⟨no,k,nn,0⟩:Rq)]++n.reqs.drop pos))):=hide (by rw [GR.flat_append];exact hoy5)
     have HQy5:=hide (show y5.heap[rb]?=some (.cells #[.int .i64 no,.string k,.int .i64 nn,.int .i64 0] 56 (0,0)) from by rw [hgy5.block _ (obj_lt (unhide HQx5)) (fun hm=>unhide HEy4 _ hm.symm rfl)];exact unhide HQx5)
     have HEy5:=hide (show∀b,(v5).ownBlock=some b→b≠rb from fun b hb=>(hwy5 b hb).elim (fun h=>unhide HEy4 b h) (fun h=>by have:=obj_lt (unhide HQx5);omega))
     obtain⟨avT,cvT,hsly5,_⟩:=GR.own_at (enc:=encRq) (sz:=4) (l:=n.reqs.take pos++[(⟨no,k,nn,0⟩:Rq)]++n.reqs.drop pos) encRq_length (by rw [hL2];exact unhide HVy5)
     rw [hL2] at hsly5
     subst hsly5
     clear hry5 hoy5 hgy5 hwy5
     have hwb2:wc.heap.size≤y5.heap.size:=(unhide HGy5).size
     refine wpMixB_take 14 20 hwb2 rfl (by kernel_rfl) (by kernel_rfl) (by kernel_rfl) (by kernel_rfl) (by kernel_rfl) (fun _ _ _ _ h=>h) (fun K hK=>?_)
     go_simp
     first
      |(refine hK _ ?_;clear hK K)
      |(apply Exists.intro
        refine⟨fun _=>?_,hK _ ?_⟩
        (first|rfl|(trace_state;fail))
        clear hK K)
     refine wpMixB_leave (by kernel_rfl) (fun z hz=>?_)
     have HGz:=hide ((unhide HGy5).trans (hz.mono (unhide HGy5).size))
     have HVz:=hide (GR.own_below (unhide HVy5) hz)
     have hsz:wc.heap.size≤z.heap.size:=(unhide HGz).size
     clear hz
     have HNz:Hid (z.heap[w.heap.size]?=some (.cells #[.int .i64 n.id,.int .i64 n.par,.slice a_k n.kids.length a_ck,.int .i64 n.next,.slice av RL.length cv,.slice a_o n.out.length a_co,.slice a_s n.seen.length a_cs,.int .i64 n.old,.slice (some ⟨gr,0,none⟩) n.reqs.length a_cr] 30 (0,0))):=by unfold Hid;rw [(unhide HGz).block _ hnl];exact unhide HN_5
     have HRz:Hid (z.heap[w.heap.size+2]?=some (.cells zc9 30 (0,0))):=by unfold Hid;rw [(unhide HGz).block _ (obj_lt (unhide HR_5))];exact unhide HR_5
     have HQz:Hid (z.heap[W1.heap.size]?=some (.cells #[.int .i64 no,.string k,.int .i64 nn,.int .i64 0] 56 (0,0))):=by unfold Hid;rw [(unhide HGz).block _ hql5];exact unhide HQ_5
     have kc:=(nine (unhide HNz)).2.2.2.2.2.2.2.2
     have kf:=obj_free (unhide HNz) 8
     refine wpAny_one 15 rfl (by kernel_rfl) (by rfl) ?_
     go_simp
     refine wpAny_done (by kernel_rfl) ?_
     go_simp
     go_wp2_with fail
     go_meet
     case rel=>
      refine⟨rfl,avT,cvT,?_,?_,?_,?_,?_,?_,?_,?_⟩
      ·rcases(unhide HVz).2 with⟨_,hn⟩|⟨g,cap,cur,hv,_⟩
       ·omega
       ·simp only[Value.slice.injEq] at hv
        exact⟨g,hv.1⟩
      ·rcases(unhide HVz).2 with⟨_,hn⟩|⟨g,cap,cur,hv,_,_,hnc,_⟩
       ·omega
       ·simp only[Value.slice.injEq] at hv
        omega
      ·have h:=blk_setO (unhide HNz) 8 (.slice avT (pos+1+(n.reqs.length - pos)) cvT)
       rw [show pos+1+(n.reqs.length - pos)=n.reqs.length+1 by omega] at h ⊢
       exact h
      ·exact obj_set _ (by omega) (unhide HRz)
      ·exact obj_set _ (by omega) (unhide HQz)
      ·have h:=LO.own (en:=encRq) (cp:=cvT) (l:=n.reqs.take pos++[(⟨no,k,nn,0⟩:Rq)]++n.reqs.drop pos) (by rw [hL2];exact unhide HVz)
       rw [unhide HIQ]
       rw [List.append_assoc] at h
       exact(h.keeps (KeepsL.set _) (fun x hx=>by simp at hx;omega)).lower (by omega)
      ·exact((unhide HP5).below (unhide HGz)).keeps (KeepsL.set _) (fun x hx=>by simp at hx;omega)
      ·exact((unhide HB5).trans ((unhide HGz).mono (unhide HB5).size)).setCell (p:=⟨w.heap.size,8,none⟩) (Nat.le_refl _) _
   ·go_simp
    have HGx1:=hide ((unhide HG0).trans (hx1.mono (unhide HG0).size))
    have hsx1:wc.heap.size≤x1.heap.size:=(unhide HGx1).size
    clear hx1
    refine⟨(below_one x1 _).mono hsx1,?_⟩
    have hby1:=below_one x1 (.cells #[.int .i64 no,.string k,.int .i64 nn,.int .i64 0] 56)
    have HQy1:=hide (heap_alloc_new x1 (.cells #[.int .i64 no,.string k,.int .i64 nn,.int .i64 0] 56))
    have HGy1:=hide ((unhide HGx1).trans (hby1.mono (unhide HGx1).size))
    clear hby1
    generalize hyy1:x1.alloc (.cells #[.int .i64 no,.string k,.int .i64 nn,.int .i64 0] 56)=y1 at *
    clear hyy1
    refine wpMixB_one 0 rfl (by kernel_rfl) (by rfl) (by decide) (fun x2 hx2=>?_)
    go_simp
    have HGx2:=hide ((unhide HGy1).trans (hx2.mono (unhide HGy1).size))
    have hsx2:wc.heap.size≤x2.heap.size:=(unhide HGx2).size
    have HQx2:=hide (obj_step (unhide HQy1) hx2)
    clear hx2
    refine⟨(below_one x2 _).mono hsx2,?_⟩
    have hby2:=below_one x2 (.cells #[] 56)
    have HVy2:=hide (show(x2.alloc (.cells #[] 56)).ownsRow wc.heap.size 56 4 (.slice (some ⟨x2.heap.size,0,none⟩) 0 0) 0 (GR.flat encRq []) from World.ownsRow_lit (base:=wc.heap.size) (e:=56) (size:=4) x2 #[] 0 hsx2 (by unfold maxLen;omega) (by simp))
    have HQy2:=hide (obj_step (unhide HQx2) hby2)
    have hrby2:=obj_lt (unhide HQx2)
    have HEy2:=hide (show∀b,(Value.slice (some ⟨x2.heap.size,0,none⟩) 0 0).ownBlock=some b→b≠x1.heap.size from fun b hb=>by simp[Value.ownBlock] at hb;omega)
    have HGy2:=hide ((unhide HGx2).trans (hby2.mono (unhide HGx2).size))
    clear hby2
    generalize hyy2:x2.alloc (.cells #[] 56)=y2 at *
    clear hyy2
    refine wpMixB_one 5 rfl (by kernel_rfl) (by rfl) (by decide) (fun x3 hx3=>?_)
    have HGx3:=hide ((unhide HGy2).trans (hx3.mono (unhide HGy2).size))
    have hsx3:wc.heap.size≤x3.heap.size:=(unhide HGx3).size
    have HVx3:=hide (GR.own_below (unhide HVy2) hx3)
    have HQx3:=hide (obj_step (unhide HQy2) hx3)
    clear hx3
    obtain⟨v3,y3,hry3,hoy3,hgy3,hwy3⟩:=run_append_row encRq_length (by omega) x3 wc.heap.size 28 28 56 i0 (.agg #[.int .i64 0,.string ByteArray.empty,.int .i64 0,.int .i64 0]) 40 Tryz.underlying28 hi hz0 hz1 hz2 rfl (.slice (some ⟨x2.heap.size,0,none⟩) 0 0) 0 (GR.flat encRq ([])) (unhide HVx3) (some ⟨gr,0,none⟩) (n.reqs.take pos) a_cr (GR.At.below (unhide HTL) (unhide HGx3)) (flatRq_one _) (by unfold maxLen;omega) (by omega) hsx3
    rw [hlt1] at hry3 hoy3
    refine Lib.wp_append_run x3 (.tmp 93) (.tmp 97) 28 28 rfl _ _ (by simp[Act.eval]) (by simp[Act.eval]) v3 y3 hry3 ?_
    refine⟨(Below.refl _ _).grown hgy3 hsx3 (fun b hb=>((unhide HVx3).lt b hb).1),?_⟩
    go_simp
    have HGy3:=hide ((unhide HGx3).grown hgy3 hsx3 (fun b hb=>((unhide HVx3).lt b hb).1))
    have HVy3:Hid (y3.ownsRow wc.heap.size 56 4 v3 (pos) (GR.flat encRq (n.reqs.take pos))):=hide (by simpa [GR.flat_nil] using hoy3)
    have HQy3:=hide (show y3.heap[x1.heap.size]?=some (.cells #[.int .i64 no,.string k,.int .i64 nn,.int .i64 0] 56 (0,0)) from by rw [hgy3.block _ (obj_lt (unhide HQx3)) (fun hm=>unhide HEy2 _ hm.symm rfl)];exact unhide HQx3)
    have HEy3:=hide (show∀b,(v3).ownBlock=some b→b≠x1.heap.size from fun b hb=>(hwy3 b hb).elim (fun h=>unhide HEy2 b h) (fun h=>by have:=obj_lt (unhide HQx3);omega))
    obtain⟨avR,cvR,hsly3,_⟩:=GR.own_at (enc:=encRq) (sz:=4) (l:=n.reqs.take pos) encRq_length (by rw [hlt1];exact unhide HVy3)
    rw [hlt1] at hsly3
    subst hsly3
    clear hry3 hoy3 hgy3 hwy3
    generalize x1.heap.size=rb at *
    refine wpMixB_one 8 rfl (by kernel_rfl) (by rfl) (by decide) (fun x4 hx4=>?_)
    have HGx4:=hide ((unhide HGy3).trans (hx4.mono (unhide HGy3).size))
    have hsx4:wc.heap.size≤x4.heap.size:=(unhide HGx4).size
    have HVx4:=hide (GR.own_below (unhide HVy3) hx4)
    have HQx4:=hide (obj_step (unhide HQy3) hx4)
    clear hx4
    obtain⟨v4,y4,hry4,hoy4,hgy4,hwy4⟩:=run_append_where x4 wc.heap.size 28 28 56 i0 (.agg #[.int .i64 0,.string ByteArray.empty,.int .i64 0,.int .i64 0]) 4 40 Tryz.underlying28 hi hz0 hz1 hz2 rfl (by decide) (.slice avR (pos) cvR) (pos) (GR.flat encRq (n.reqs.take pos)) (unhide HVx4) ⟨rb,0,none⟩ 1 1 (encRq ⟨no,k,nn,0⟩) rfl (World.news_of_block (unhide HQx4)) (encRq_one _) (by unfold maxLen;omega) (by omega) hsx4
    refine Lib.wp_append_run x4 (.tmp 98) (.tmp 100) 28 28 rfl _ _ (by simp[Act.eval]) (by simp[Act.eval]) v4 y4 hry4 ?_
    refine⟨(Below.refl _ _).grown hgy4 hsx4 (fun b hb=>((unhide HVx4).lt b hb).1),?_⟩
    go_simp
    have HGy4:=hide ((unhide HGx4).grown hgy4 hsx4 (fun b hb=>((unhide HVx4).lt b hb).1))
    have HVy4:Hid (y4.ownsRow wc.heap.size 56 4 v4 (pos+1) (GR.flat encRq (n.reqs.take pos++[(⟨no,k,nn,0⟩:Rq)]))):=hide (by rw [GR.flat_append,GR.flat_one];exact hoy4)
    have HQy4:=hide (show y4.heap[rb]?=some (.cells #[.int .i64 no,.string k,.int .i64 nn,.int .i64 0] 56 (0,0)) from by rw [hgy4.block _ (obj_lt (unhide HQx4)) (fun hm=>unhide HEy3 _ hm.symm rfl)];exact unhide HQx4)
    have HEy4:=hide (show∀b,(v4).ownBlock=some b→b≠rb from fun b hb=>(hwy4 b hb).elim (fun h=>unhide HEy3 b h) (fun h=>by have:=obj_lt (unhide HQx4);omega))
    obtain⟨avO,cvO,hsly4,_⟩:=GR.own_at (enc:=encRq) (sz:=4) (l:=n.reqs.take pos++[(⟨no,k,nn,0⟩:Rq)]) encRq_length (by rw [hL1];exact unhide HVy4)
    rw [hL1] at hsly4
    subst hsly4
    clear hry4 hoy4 hgy4 hwy4
    refine wpMixB_one 13 rfl (by kernel_rfl) (by rfl) (by decide) (fun x5 hx5=>?_)
    have HGx5:=hide ((unhide HGy4).trans (hx5.mono (unhide HGy4).size))
    have hsx5:wc.heap.size≤x5.heap.size:=(unhide HGx5).size
    have HVx5:=hide (GR.own_below (unhide HVy4) hx5)
    have HQx5:=hide (obj_step (unhide HQy4) hx5)
    clear hx5
    obtain⟨v5,y5,hry5,hoy5,hgy5,hwy5⟩:=run_append_row encRq_length (by omega) x5 wc.heap.size 28 28 56 i0 (.agg #[.int .i64 0,.string ByteArray.empty,.int .i64 0,.int .i64 0]) 40 Tryz.underlying28 hi hz0 hz1 hz2 rfl (.slice avO (pos+1) cvO) (pos+1) (GR.flat encRq (n.reqs.take pos++[(⟨no,k,nn,0⟩:Rq)])) (unhide HVx5) AD (n.reqs.drop pos) (a_cr - pos) (GR.At.below (unhide HDR) (unhide HGx5)) (flatRq_one _) (by unfold maxLen;omega) (by omega) hsx5
    rw [hld1] at hry5 hoy5
    refine Lib.wp_append_run x5 (.tmp 101) (.tmp 105) 28 28 rfl _ _ (by simp[Act.eval]) (by simp[Act.eval]) v5 y5 hry5 ?_
    refine⟨(Below.refl _ _).grown hgy5 hsx5 (fun b hb=>((unhide HVx5).lt b hb).1),?_⟩
    go_simp
    have HGy5:=hide ((unhide HGx5).grown hgy5 hsx5 (fun b hb=>((unhide HVx5).lt b hb).1))
    have HVy5:Hid (y5.ownsRow wc.heap.size 56 4 v5 (pos+1+(n.reqs.length - pos)) (GR.flat encRq (n.reqs.take pos++[(⟨no,k,nn,0⟩:Rq)]++n.reqs.drop pos))):=hide (by rw [GR.flat_append];exact hoy5)
    have HQy5:=hide (show y5.heap[rb]?=some (.cells #[.int .i64 no,.string k,.int .i64 nn,.int .i64 0] 56 (0,0)) from by rw [hgy5.block _ (obj_lt (unhide HQx5)) (fun hm=>unhide HEy4 _ hm.symm rfl)];exact unhide HQx5)
    have HEy5:=hide (show∀b,(v5).ownBlock=some b→b≠rb from fun b hb=>(hwy5 b hb).elim (fun h=>unhide HEy4 b h) (fun h=>by have:=obj_lt (unhide HQx5);omega))
    obtain⟨avT,cvT,hsly5,_⟩:=GR.own_at (enc:=encRq) (sz:=4) (l:=n.reqs.take pos++[(⟨no,k,nn,0⟩:Rq)]++n.reqs.drop pos) encRq_length (by rw [hL2];exact unhide HVy5)
    rw [hL2] at hsly5
    subst hsly5
    clear hry5 hoy5 hgy5 hwy5
    have hwb2:wc.heap.size≤y5.heap.size:=(unhide HGy5).size
    refine wpMixB_take 14 20 hwb2 rfl (by kernel_rfl) (by kernel_rfl) (by kernel_rfl) (by kernel_rfl) (by kernel_rfl) (fun _ _ _ _ h=>h) (fun K hK=>?_)
    go_simp
    first
     |(refine hK _ ?_;clear hK K)
     |(apply Exists.intro
       refine⟨fun _=>?_,hK _ ?_⟩
       (first|rfl|(trace_state;fail))
       clear hK K)
    refine wpMixB_leave (by kernel_rfl) (fun z hz=>?_)
    have HGz:=hide ((unhide HGy5).trans (hz.mono (unhide HGy5).size))
    have HVz:=hide (GR.own_below (unhide HVy5) hz)
    have hsz:wc.heap.size≤z.heap.size:=(unhide HGz).size
    clear hz
    have HNz:Hid (z.heap[w.heap.size]?=some (.cells #[.int .i64 n.id,.int .i64 n.par,.slice a_k n.kids.length a_ck,.int .i64 n.next,.slice av RL.length cv,.slice a_o n.out.length a_co,.slice a_s n.seen.length a_cs,.int .i64 n.old,.slice (some ⟨gr,0,none⟩) n.reqs.length a_cr] 30 (0,0))):=by unfold Hid;rw [(unhide HGz).block _ hnl];exact unhide HN_5
    have HRz:Hid (z.heap[w.heap.size+2]?=some (.cells zc9 30 (0,0))):=by unfold Hid;rw [(unhide HGz).block _ (obj_lt (unhide HR_5))];exact unhide HR_5
    have HQz:Hid (z.heap[W1.heap.size]?=some (.cells #[.int .i64 no,.string k,.int .i64 nn,.int .i64 0] 56 (0,0))):=by unfold Hid;rw [(unhide HGz).block _ hql5];exact unhide HQ_5
    have kc:=(nine (unhide HNz)).2.2.2.2.2.2.2.2
    have kf:=obj_free (unhide HNz) 8
    refine wpAny_one 15 rfl (by kernel_rfl) (by rfl) ?_
    go_simp
    refine wpAny_done (by kernel_rfl) ?_
    go_simp
    go_wp2_with fail
    go_meet
    case rel=>
     refine⟨rfl,avT,cvT,?_,?_,?_,?_,?_,?_,?_,?_⟩
     ·rcases(unhide HVz).2 with⟨_,hn⟩|⟨g,cap,cur,hv,_⟩
      ·omega
      ·simp only[Value.slice.injEq] at hv
       exact⟨g,hv.1⟩
     ·rcases(unhide HVz).2 with⟨_,hn⟩|⟨g,cap,cur,hv,_,_,hnc,_⟩
      ·omega
      ·simp only[Value.slice.injEq] at hv
       omega
     ·have h:=blk_setO (unhide HNz) 8 (.slice avT (pos+1+(n.reqs.length - pos)) cvT)
      rw [show pos+1+(n.reqs.length - pos)=n.reqs.length+1 by omega] at h ⊢
      exact h
     ·exact obj_set _ (by omega) (unhide HRz)
     ·exact obj_set _ (by omega) (unhide HQz)
     ·have h:=LO.own (en:=encRq) (cp:=cvT) (l:=n.reqs.take pos++[(⟨no,k,nn,0⟩:Rq)]++n.reqs.drop pos) (by rw [hL2];exact unhide HVz)
      rw [unhide HIQ]
      rw [List.append_assoc] at h
      exact(h.keeps (KeepsL.set _) (fun x hx=>by simp at hx;omega)).lower (by omega)
     ·exact((unhide HP5).below (unhide HGz)).keeps (KeepsL.set _) (fun x hx=>by simp at hx;omega)
     ·exact((unhide HB5).trans ((unhide HGz).mono (unhide HB5).size)).setCell (p:=⟨w.heap.size,8,none⟩) (Nat.le_refl _) _
  case rest=>
   clear c0 c1 c2 c3 c4 c5 c6 c7 c8 q0 q1 q2 q3 hnl hql5 HN_5 HR_5 HQ_5 HB5 HA5 HP5
   obtain⟨rfl,va,vc,⟨gv,rfl⟩,hvc,hN6,hR6,hQ6,hL6,hP6,hB6⟩:=hcut
   have HLQ:=hide (show IQ.length=n.reqs.length+1 by rw [unhide HIQ];simp;omega)
   have HN_6:=hide hN6
   have HR_6:=hide hR6
   have HQ_6:=hide hQ6
   have HL6:=hide hL6
   have HP6:=hide hP6
   have HB6:=hide hB6
   clear hN6 hR6 hQ6 hL6 hP6 hB6
   rename_i wo _ _ _
   by_cases h30:30 < n.reqs.length+1
   ·have HK:=hide (show keepN (setPu n RL) ⟨no,k,nn,0⟩=setReqs (setOld (setPu n RL) (IQ.headD default).no) IQ.tail by unfold keepN;rw [show((setPu n RL)).reqs=n.reqs from rfl,unhide HIN,unhide HLQ,if_pos h30])
    obtain⟨IH,IT,hIQ⟩:∃IH IT,IQ=IH::IT:=by
     cases hq:IQ with
     |nil=>have:=unhide HLQ;rw [hq] at this;simp at this
     |cons a b=>exact⟨a,b,rfl⟩
    subst hIQ
    have hIT:IT.length=n.reqs.length:=by have:=unhide HLQ;simp at this;omega
    have y0:wc.cell? ⟨gv,0,none⟩=some (.int .i64 IH.no):=by
     obtain⟨g',off',e0,_,h0,_⟩:=ReqAt.four ((unhide HL6).lies encRq_length).1 0 (by simp)
     cases e0
     simpa using h0
    have HTA:=hide (show ReqAt wc (some ⟨gv,1*4,none⟩) IT from GR.At.drop ((unhide HL6).lies encRq_length).1 1)
    have hvlo:=((unhide HL6).lies encRq_length).2 gv 0 rfl
    obtain⟨c0,c1,c2,c3,c4,c5,c6,c7,c8⟩:=nine (unhide HN_6)
    have cf:=obj_free (unhide HN_6) 7
    have hnl:=obj_lt (unhide HN_6)
    have hd30:decide ((30:Int) < ((n.reqs.length+1:Nat):Int))=true:=decide_eq_true (by omega)
    go_upto_region 19 with fail
    refine wp_at (fun W7 hW7=>?_)
    have hvc1:¬vc=1:=by omega
    have hvc2:1≤vc:=by omega
    have HN_7:Hid (W7.heap[w.heap.size]?=some (.cells #[.int .i64 n.id,.int .i64 n.par,.slice a_k n.kids.length a_ck,.int .i64 n.next,.slice av RL.length cv,.slice a_o n.out.length a_co,.slice a_s n.seen.length a_cs,.int .i64 IH.no,.slice (some ⟨gv,0,none⟩) (n.reqs.length+1) vc] 30 (0,0))):=by rw [hW7];exact blk_setO (unhide HN_6) 7 _
    have HR_7:Hid (W7.heap[w.heap.size+2]?=some (.cells zc9 30 (0,0))):=by rw [hW7];exact obj_set _ (by omega) (unhide HR_6)
    have HQ_7:Hid (W7.heap[W1.heap.size]?=some (.cells #[.int .i64 no,.string k,.int .i64 nn,.int .i64 0] 56 (0,0))):=by rw [hW7];exact obj_set _ (by omega) (unhide HQ_6)
    have HB7:Hid (Below w.heap.size w W7):=by rw [hW7];exact(unhide HB6).setCell (p:=⟨w.heap.size,7,none⟩) (Nat.le_refl _) _
    have HTA7:Hid (ReqAt W7 (some ⟨gv,1*4,none⟩) IT):=by
     rw [hW7]
     exact((show Lies encRq 4 (w.heap.size+3) wc (some ⟨gv,1*4,none⟩) IT from⟨unhide HTA,fun g off e=>by cases e;exact hvlo⟩).keeps (KeepsL.set _) (fun x hx=>by simp at hx;omega)).1
    have HP7:Hid (LO 80 encP 4 (w.heap.size+3) W7 av cv RL):=by rw [hW7];exact(unhide HP6).keeps (KeepsL.set _) (fun x hx=>by simp at hx;omega)
    clear hW7 HTA y0 cf c0 c1 c2 c3 c4 c5 c6 c7 c8 hnl HN_6 HR_6 HQ_6 HB6 HL6 HP6
    obtain⟨c0,c1,c2,c3,c4,c5,c6,c7,c8⟩:=nine (unhide HN_7)
    have cf:=obj_free (unhide HN_7) 8
    have hnl:=obj_lt (unhide HN_7)
    obtain⟨i0,hi,hz0,hz1,hz2⟩:=info_parts infoReq
    obtain⟨a8,c8',W8,hrun,hown8,hb8,⟨g8,rfl⟩,hc8⟩:=run_copy_row (P:=Tryz.prog) encRq_length (by omega) W7 28 56 i0 (.agg #[.int .i64 0,.string ByteArray.empty,.int .i64 0,.int .i64 0]) 40 Tryz.underlying28 hi hz0 hz1 hz2 rfl (some ⟨gv,1*4,none⟩) IT (vc - 1) (unhide HTA7) (flatRq_one _) (by unfold maxLen;omega) (by omega)
    rw [hIT,Nat.one_mul] at hrun
    have HRUN:=hide hrun
    have HN_8:=hide (obj_step (unhide HN_7) hb8)
    have HR_8:=hide (obj_step (unhide HR_7) hb8)
    have HQ_8:=hide (obj_step (unhide HQ_7) hb8)
    have HB8:=hide ((unhide HB7).trans (hb8.mono (unhide HB7).size))
    have HL8:=hide (LO.own (en:=encRq) hown8)
    have hz7:w.heap.size+3≤W7.heap.size:=by have:=obj_lt (unhide HQ_7);omega
    have HP8:=hide ((unhide HP7).below hb8)
    have k8:=(nine (unhide HN_8)).2.2.2.2.2.2.2.2
    have kf8:=obj_free (unhide HN_8) 8
    clear hrun hb8 hown8
    go_upto_region 20 with(at_builtin;refine wpList_append_eq rfl (.tmp 118) (.tmp 121) 28 rfl _ _ rfl rfl _ _ (unhide HRUN _) ?_)
    refine wp_at (fun W9 hW9=>?_)
    have HN_9:Hid (W9.heap[w.heap.size]?=some (.cells #[.int .i64 n.id,.int .i64 n.par,.slice a_k n.kids.length a_ck,.int .i64 n.next,.slice av RL.length cv,.slice a_o n.out.length a_co,.slice a_s n.seen.length a_cs,.int .i64 IH.no,.slice (some ⟨g8,0,none⟩) n.reqs.length c8'] 30 (0,0))):=by rw [hW9];exact blk_setO (unhide HN_8) 8 _
    have HR_9:Hid (W9.heap[w.heap.size+2]?=some (.cells zc9 30 (0,0))):=by rw [hW9];exact obj_set _ (by omega) (unhide HR_8)
    have HQ_9:Hid (W9.heap[W1.heap.size]?=some (.cells #[.int .i64 no,.string k,.int .i64 nn,.int .i64 0] 56 (0,0))):=by rw [hW9];exact obj_set _ (by omega) (unhide HQ_8)
    have HB9:Hid (Below w.heap.size w W9):=by rw [hW9];exact(unhide HB8).setCell (p:=⟨w.heap.size,8,none⟩) (Nat.le_refl _) _
    have HL9:Hid (LO 56 encRq 4 (w.heap.size+3) W9 (some ⟨g8,0,none⟩) c8' IT):=by rw [hW9];exact(((unhide HL8).lower hz7).keeps (KeepsL.set _) (fun x hx=>by simp at hx;omega))
    have HP9:Hid (LO 80 encP 4 (w.heap.size+3) W9 av cv RL):=by rw [hW9];exact(unhide HP8).keeps (KeepsL.set _) (fun x hx=>by simp at hx;omega)
    clear hW9 k8 kf8 HN_8 HR_8 HQ_8 HB8 HL8 HN_7 HR_7 HQ_7 HB7 HTA7 HRUN c0 c1 c2 c3 c4 c5 c6 c7 c8 cf hnl HP8 HP7
    have hITn:IT.length=n.reqs.length:=hIT
    clear hIT
    obtain⟨c0,c1,c2,c3,c4,c5,c6,c7,c8⟩:=nine (unhide HN_9)
    have y0:=cell_regrown c0
    have y1:=cell_regrown c1
    have y2:=cell_regrown c2
    have y3:=cell_regrown c3
    have y4:=cell_regrown c4
    have y5:=cell_regrown c5
    have y6:=cell_regrown c6
    have y7:=cell_regrown c7
    have y8:=cell_regrown c8
    have hnl:=obj_lt (unhide HN_9)
    have hnr:=obj_lt (unhide HR_9)
    have hnq:=obj_lt (unhide HQ_9)
    clear c0 c1 c2 c3 c4 c5 c6 c7 c8
    go_cut [5] from 11 (fun cd wx=>cd= .int .i64 0∧wx.heap[w.heap.size+2]?=some (.cells #[.int .i64 n.id,.int .i64 n.par,.slice a_k n.kids.length a_ck,.int .i64 n.next,.slice av RL.length cv,.slice a_o n.out.length a_co,.slice a_s n.seen.length a_cs,.int .i64 IH.no,.slice (some ⟨g8,0,none⟩) n.reqs.length c8'] 30 (0,0))∧KeepsL [w.heap.size+2] W9 wx)
    case first=>
     refine wp_region_mixF 3 (by kernel_rfl) ?_
     show wpMixF _ _ _ _ _ 5 (Array.replicate 5 false) _ _
     refine wpMixF_take 0 20 rfl (by kernel_rfl) (by kernel_rfl) (by kernel_rfl) (by kernel_rfl) (by kernel_rfl) (fun _ _ _ _ h=>h) (fun K hK=>?_)
     go_simp
     first
      |(refine hK _ ?_;clear hK K)
      |(apply Exists.intro
        refine⟨fun _=>?_,hK _ ?_⟩
        (fail)
        clear hK K)
     clear y0 y1 y2 y3 y4 y5 y6 y7 y8
     refine wpMixF_two 1 rfl rfl (by kernel_rfl) (by rfl) (by rfl) (by decide) (fun x hx=>?_) (fun x hx=>?_)
     ·go_simp
      refine⟨Below.refl _ _,?_⟩
      refine wpMixF_two 2 rfl rfl (by kernel_rfl) (by rfl) (by rfl) (by decide) (fun x2 hx2=>?_) (fun x2 hx2=>?_)
      ·have q3x:=(fourC (obj_step (unhide HQ_9) (Ge.trans hx hx2))).2.2.2
       go_simp
       refine⟨Below.refl _ _,?_⟩
       refine wpMixF_leave (by kernel_rfl) (fun x3 hx3=>?_)
       have hg3:=Ge.trans (Ge.trans hx hx2) hx3
       clear q3x
       have HRx:=hide (obj_step (unhide HR_9) hg3)
       obtain⟨d0,d1,d2,d3,d4,d5,d6,d7,d8⟩:=nine (unhide HRx)
       have f0:=obj_free (unhide HRx) 0
       have f1:=obj_free (unhide HRx) 1
       have f2:=obj_free (unhide HRx) 2
       have f3:=obj_free (unhide HRx) 3
       have f4:=obj_free (unhide HRx) 4
       have f5:=obj_free (unhide HRx) 5
       have f6:=obj_free (unhide HRx) 6
       have f7:=obj_free (unhide HRx) 7
       have f8:=obj_free (unhide HRx) 8
       have hrl:=obj_lt (unhide HRx)
       refine wpAny_one 3 rfl (by kernel_rfl) (by rfl) ?_
       go_simp
       refine wpAny_one 4 rfl (by kernel_rfl) (by rfl) ?_
       go_simp
       refine wpAny_done (by kernel_rfl) ?_
       go_simp
       go_wp2_with fail
       go_meet
       case rel=>exact⟨rfl,GR.setW_blk [.int .i64 n.id,.int .i64 n.par,.slice a_k n.kids.length a_ck,.int .i64 n.next,.slice av RL.length cv,.slice a_o n.out.length a_co,.slice a_s n.seen.length a_cs,.int .i64 IH.no,.slice (some ⟨g8,0,none⟩) n.reqs.length c8'] (o:=0) (xs:=[.int .i64 0,.int .i64 0,.slice none 0 0,.int .i64 0,.slice none 0 0,.slice none 0 0,.slice none 0 0,.int .i64 0,.slice none 0 0]) (unhide HRx),(KeepsL.of_below hg3).trans (setW_keeps [.int .i64 n.id,.int .i64 n.par,.slice a_k n.kids.length a_ck,.int .i64 n.next,.slice av RL.length cv,.slice a_o n.out.length a_co,.slice a_s n.seen.length a_cs,.int .i64 IH.no,.slice (some ⟨g8,0,none⟩) n.reqs.length c8'] x3 0)⟩
      ·have hg3:=Ge.trans hx hx2
       have q3x:=(fourC (obj_step (unhide HQ_9) hg3)).2.2.2
       have HRx:=hide (obj_step (unhide HR_9) hg3)
       obtain⟨d0,d1,d2,d3,d4,d5,d6,d7,d8⟩:=nine (unhide HRx)
       have f0:=obj_free (unhide HRx) 0
       have f1:=obj_free (unhide HRx) 1
       have f2:=obj_free (unhide HRx) 2
       have f3:=obj_free (unhide HRx) 3
       have f4:=obj_free (unhide HRx) 4
       have f5:=obj_free (unhide HRx) 5
       have f6:=obj_free (unhide HRx) 6
       have f7:=obj_free (unhide HRx) 7
       have f8:=obj_free (unhide HRx) 8
       have hrl:=obj_lt (unhide HRx)
       have q3s:=far9 (g:=w.heap.size+2) (i:=3) (b0:= .int .i64 n.id) (b1:= .int .i64 n.par) (b2:= .slice a_k n.kids.length a_ck) (b3:= .int .i64 n.next) (b4:= .slice av RL.length cv) (b5:= .slice a_o n.out.length a_co) (b6:= .slice a_s n.seen.length a_cs) (b7:= .int .i64 IH.no) (b8:= .slice (some ⟨g8,0,none⟩) n.reqs.length c8') (show w.heap.size+2≠W1.heap.size by omega) q3x
       go_simp
       refine wpAny_one 2 rfl (by kernel_rfl) (by rfl) ?_
       go_simp
       refine wpAny_one 4 rfl (by kernel_rfl) (by rfl) ?_
       go_simp
       refine wpAny_done (by kernel_rfl) ?_
       go_simp
       go_wp2_with fail
       go_meet
       case rel=>exact⟨rfl,GR.setW_blk [.int .i64 n.id,.int .i64 n.par,.slice a_k n.kids.length a_ck,.int .i64 n.next,.slice av RL.length cv,.slice a_o n.out.length a_co,.slice a_s n.seen.length a_cs,.int .i64 IH.no,.slice (some ⟨g8,0,none⟩) n.reqs.length c8'] (o:=0) (xs:=[.int .i64 0,.int .i64 0,.slice none 0 0,.int .i64 0,.slice none 0 0,.slice none 0 0,.slice none 0 0,.int .i64 0,.slice none 0 0]) (unhide HRx),(KeepsL.of_below hg3).trans (setW_keeps [.int .i64 n.id,.int .i64 n.par,.slice a_k n.kids.length a_ck,.int .i64 n.next,.slice av RL.length cv,.slice a_o n.out.length a_co,.slice a_s n.seen.length a_cs,.int .i64 IH.no,.slice (some ⟨g8,0,none⟩) n.reqs.length c8'] x2 0)⟩
     ·have q3x:=(fourC (obj_step (unhide HQ_9) hx)).2.2.2
      have HRx:=hide (obj_step (unhide HR_9) hx)
      obtain⟨d0,d1,d2,d3,d4,d5,d6,d7,d8⟩:=nine (unhide HRx)
      have f0:=obj_free (unhide HRx) 0
      have f1:=obj_free (unhide HRx) 1
      have f2:=obj_free (unhide HRx) 2
      have f3:=obj_free (unhide HRx) 3
      have f4:=obj_free (unhide HRx) 4
      have f5:=obj_free (unhide HRx) 5
      have f6:=obj_free (unhide HRx) 6
      have f7:=obj_free (unhide HRx) 7
      have f8:=obj_free (unhide HRx) 8
      have hrl:=obj_lt (unhide HRx)
      have q3s:=far9 (g:=w.heap.size+2) (i:=3) (b0:= .int .i64 n.id) (b1:= .int .i64 n.par) (b2:= .slice a_k n.kids.length a_ck) (b3:= .int .i64 n.next) (b4:= .slice av RL.length cv) (b5:= .slice a_o n.out.length a_co) (b6:= .slice a_s n.seen.length a_cs) (b7:= .int .i64 IH.no) (b8:= .slice (some ⟨g8,0,none⟩) n.reqs.length c8') (show w.heap.size+2≠W1.heap.size by omega) q3x
      go_simp
      refine wpAny_one 1 rfl (by kernel_rfl) (by rfl) ?_
      go_simp
      refine wpAny_one 2 rfl (by kernel_rfl) (by rfl) ?_
      go_simp
      refine wpAny_one 4 rfl (by kernel_rfl) (by rfl) ?_
      go_simp
      refine wpAny_done (by kernel_rfl) ?_
      go_simp
      go_wp2_with fail
      go_meet
      case rel=>exact⟨rfl,GR.setW_blk [.int .i64 n.id,.int .i64 n.par,.slice a_k n.kids.length a_ck,.int .i64 n.next,.slice av RL.length cv,.slice a_o n.out.length a_co,.slice a_s n.seen.length a_cs,.int .i64 IH.no,.slice (some ⟨g8,0,none⟩) n.reqs.length c8'] (o:=0) (xs:=[.int .i64 0,.int .i64 0,.slice none 0 0,.int .i64 0,.slice none 0 0,.slice none 0 0,.slice none 0 0,.int .i64 0,.slice none 0 0]) (unhide HRx),(KeepsL.of_below hx).trans (setW_keeps [.int .i64 n.id,.int .i64 n.par,.slice a_k n.kids.length a_ck,.int .i64 n.next,.slice av RL.length cv,.slice a_o n.out.length a_co,.slice a_s n.seen.length a_cs,.int .i64 IH.no,.slice (some ⟨g8,0,none⟩) n.reqs.length c8'] x 0)⟩
    case rest=>
     obtain⟨rfl,e4,hkf⟩:=hcut
     rename_i wz _ _ _
     have HBZ:=hide ((unhide HB9).trans (hkf.below (B:=w.heap.size) (fun x hx=>by simp at hx;omega) (unhide HB9).size))
     have HLZ:=hide ((unhide HL9).keeps hkf (fun x hx=>by simp at hx;omega))
     have HPZ:=hide ((unhide HP9).keeps hkf (fun x hx=>by simp at hx;omega))
     obtain⟨x0,x1,x2,x3,x4,x5,x6,x7,x8⟩:=nine e4
     clear e4 hkf
     go_wp2_with fail
     refine bodyPost_ret (v:= .tuple #[.agg #[.int .i64 n.id,.int .i64 n.par,.slice a_k n.kids.length a_ck,.int .i64 n.next,.slice av RL.length cv,.slice a_o n.out.length a_co,.slice a_s n.seen.length a_cs,.int .i64 IH.no,.slice (some ⟨g8,0,none⟩) n.reqs.length c8'],.int .i64 0]) (by simp[results,Tryz.results48,go_sem,x0,x1,x2,x3,x4,x5,x6,x7,x8]) rfl ?_
     rw [unhide HK]
     refine⟨⟨a_k,av,a_o,a_s,(some ⟨g8,0,none⟩),a_ck,cv,a_co,a_cs,c8'⟩,?_,fun W'' ho=>?_,(unhide HBZ).mono hB,Apart.of_below (unhide HBZ)⟩
     ·simp[ndv,ndc,setReqs,setOld,setPu,hITn]
     ·have hold:=((unhide HNO).kc (k:=9) ((KC.of_below (unhide HBZ)).trans (KC.out (unhide H9) ho)) (by omega))
      have hp:=(unhide HPZ).out (w:=w) (by omega) ho
      have hr:=(unhide HLZ).out (w:=w) (by omega) ho
      have hp9:∀g',av.map (fun y=>y.block)=some g'→6 < newC w.heap.size 9 c g':=fun g' hg'=>by
       have h1:=hp.lo (own_blkA hp hg')
       rw [newC_new (by omega)]
       omega
      exact NQ.put hold hold _ _ rfl rfl rfl rfl (hp.lies encP_length).1 (fun g' hg' _=> .inr (hp9 g' hg')) hold.o (fun y hy=> .inl (hold.co y hy)) hr (fun y hy=> .inr (by have h1:=hr.lo hy;rw [newC_new (by omega)];omega))
       (fun g' hg' _ h6=>⟨fun e=>by have:=hold.co g' e;omega,hp.ne hr (by decide) (own_blkA hp hg')⟩) (fun y hy h6=>by have:=hold.co y hy;omega)
   ·have HK:=hide (show keepN (setPu n RL) ⟨no,k,nn,0⟩=setReqs (setPu n RL) IQ by unfold keepN;rw [show((setPu n RL)).reqs=n.reqs from rfl,unhide HIN,unhide HLQ,if_neg h30])
    obtain⟨c0,c1,c2,c3,c4,c5,c6,c7,c8⟩:=nine (unhide HN_6)
    have hnl:=obj_lt (unhide HN_6)
    have hd30:decide ((30:Int) < ((n.reqs.length+1:Nat):Int))=false:=decide_eq_false (by omega)
    have hIT:IQ.length=n.reqs.length+1:=unhide HLQ
    clear HLQ
    have hITn:=hide hIT
    clear hIT
    go_upto_region 20 with fail
    clear c0 c1 c2 c3 c4 c5 c6 c7 c8 hnl
    obtain⟨c0,c1,c2,c3,c4,c5,c6,c7,c8⟩:=nine (unhide HN_6)
    have y0:=cell_regrown c0
    have y1:=cell_regrown c1
    have y2:=cell_regrown c2
    have y3:=cell_regrown c3
    have y4:=cell_regrown c4
    have y5:=cell_regrown c5
    have y6:=cell_regrown c6
    have y7:=cell_regrown c7
    have y8:=cell_regrown c8
    have hnl:=obj_lt (unhide HN_6)
    have hnr:=obj_lt (unhide HR_6)
    have hnq:=obj_lt (unhide HQ_6)
    clear c0 c1 c2 c3 c4 c5 c6 c7 c8
    go_cut [5] from 11 (fun cd wx=>cd= .int .i64 0∧wx.heap[w.heap.size+2]?=some (.cells #[.int .i64 n.id,.int .i64 n.par,.slice a_k n.kids.length a_ck,.int .i64 n.next,.slice av RL.length cv,.slice a_o n.out.length a_co,.slice a_s n.seen.length a_cs,.int .i64 n.old,.slice (some ⟨gv,0,none⟩) (n.reqs.length+1) vc] 30 (0,0))∧KeepsL [w.heap.size+2] wc wx)
    case first=>
     refine wp_region_mixF 3 (by kernel_rfl) ?_
     show wpMixF _ _ _ _ _ 5 (Array.replicate 5 false) _ _
     refine wpMixF_take 0 20 rfl (by kernel_rfl) (by kernel_rfl) (by kernel_rfl) (by kernel_rfl) (by kernel_rfl) (fun _ _ _ _ h=>h) (fun K hK=>?_)
     go_simp
     first
      |(refine hK _ ?_;clear hK K)
      |(apply Exists.intro
        refine⟨fun _=>?_,hK _ ?_⟩
        (fail)
        clear hK K)
     clear y0 y1 y2 y3 y4 y5 y6 y7 y8
     refine wpMixF_two 1 rfl rfl (by kernel_rfl) (by rfl) (by rfl) (by decide) (fun x hx=>?_) (fun x hx=>?_)
     ·go_simp
      refine⟨Below.refl _ _,?_⟩
      refine wpMixF_two 2 rfl rfl (by kernel_rfl) (by rfl) (by rfl) (by decide) (fun x2 hx2=>?_) (fun x2 hx2=>?_)
      ·have q3x:=(fourC (obj_step (unhide HQ_6) (Ge.trans hx hx2))).2.2.2
       go_simp
       refine⟨Below.refl _ _,?_⟩
       refine wpMixF_leave (by kernel_rfl) (fun x3 hx3=>?_)
       have hg3:=Ge.trans (Ge.trans hx hx2) hx3
       clear q3x
       have HRx:=hide (obj_step (unhide HR_6) hg3)
       obtain⟨d0,d1,d2,d3,d4,d5,d6,d7,d8⟩:=nine (unhide HRx)
       have f0:=obj_free (unhide HRx) 0
       have f1:=obj_free (unhide HRx) 1
       have f2:=obj_free (unhide HRx) 2
       have f3:=obj_free (unhide HRx) 3
       have f4:=obj_free (unhide HRx) 4
       have f5:=obj_free (unhide HRx) 5
       have f6:=obj_free (unhide HRx) 6
       have f7:=obj_free (unhide HRx) 7
       have f8:=obj_free (unhide HRx) 8
       have hrl:=obj_lt (unhide HRx)
       refine wpAny_one 3 rfl (by kernel_rfl) (by rfl) ?_
       go_simp
       refine wpAny_one 4 rfl (by kernel_rfl) (by rfl) ?_
       go_simp
       refine wpAny_done (by kernel_rfl) ?_
       go_simp
       go_wp2_with fail
       go_meet
       case rel=>exact⟨rfl,GR.setW_blk [.int .i64 n.id,.int .i64 n.par,.slice a_k n.kids.length a_ck,.int .i64 n.next,.slice av RL.length cv,.slice a_o n.out.length a_co,.slice a_s n.seen.length a_cs,.int .i64 n.old,.slice (some ⟨gv,0,none⟩) (n.reqs.length+1) vc] (o:=0) (xs:=[.int .i64 0,.int .i64 0,.slice none 0 0,.int .i64 0,.slice none 0 0,.slice none 0 0,.slice none 0 0,.int .i64 0,.slice none 0 0]) (unhide HRx),(KeepsL.of_below hg3).trans (setW_keeps [.int .i64 n.id,.int .i64 n.par,.slice a_k n.kids.length a_ck,.int .i64 n.next,.slice av RL.length cv,.slice a_o n.out.length a_co,.slice a_s n.seen.length a_cs,.int .i64 n.old,.slice (some ⟨gv,0,none⟩) (n.reqs.length+1) vc] x3 0)⟩
      ·have hg3:=Ge.trans hx hx2
       have q3x:=(fourC (obj_step (unhide HQ_6) hg3)).2.2.2
       have HRx:=hide (obj_step (unhide HR_6) hg3)
       obtain⟨d0,d1,d2,d3,d4,d5,d6,d7,d8⟩:=nine (unhide HRx)
       have f0:=obj_free (unhide HRx) 0
       have f1:=obj_free (unhide HRx) 1
       have f2:=obj_free (unhide HRx) 2
       have f3:=obj_free (unhide HRx) 3
       have f4:=obj_free (unhide HRx) 4
       have f5:=obj_free (unhide HRx) 5
       have f6:=obj_free (unhide HRx) 6
       have f7:=obj_free (unhide HRx) 7
       have f8:=obj_free (unhide HRx) 8
       have hrl:=obj_lt (unhide HRx)
       have q3s:=far9 (g:=w.heap.size+2) (i:=3) (b0:= .int .i64 n.id) (b1:= .int .i64 n.par) (b2:= .slice a_k n.kids.length a_ck) (b3:= .int .i64 n.next) (b4:= .slice av RL.length cv) (b5:= .slice a_o n.out.length a_co) (b6:= .slice a_s n.seen.length a_cs) (b7:= .int .i64 n.old) (b8:= .slice (some ⟨gv,0,none⟩) (n.reqs.length+1) vc) (show w.heap.size+2≠W1.heap.size by omega) q3x
       go_simp
       refine wpAny_one 2 rfl (by kernel_rfl) (by rfl) ?_
       go_simp
       refine wpAny_one 4 rfl (by kernel_rfl) (by rfl) ?_
       go_simp
       refine wpAny_done (by kernel_rfl) ?_
       go_simp
       go_wp2_with fail
       go_meet
       case rel=>exact⟨rfl,GR.setW_blk [.int .i64 n.id,.int .i64 n.par,.slice a_k n.kids.length a_ck,.int .i64 n.next,.slice av RL.length cv,.slice a_o n.out.length a_co,.slice a_s n.seen.length a_cs,.int .i64 n.old,.slice (some ⟨gv,0,none⟩) (n.reqs.length+1) vc] (o:=0) (xs:=[.int .i64 0,.int .i64 0,.slice none 0 0,.int .i64 0,.slice none 0 0,.slice none 0 0,.slice none 0 0,.int .i64 0,.slice none 0 0]) (unhide HRx),(KeepsL.of_below hg3).trans (setW_keeps [.int .i64 n.id,.int .i64 n.par,.slice a_k n.kids.length a_ck,.int .i64 n.next,.slice av RL.length cv,.slice a_o n.out.length a_co,.slice a_s n.seen.length a_cs,.int .i64 n.old,.slice (some ⟨gv,0,none⟩) (n.reqs.length+1) vc] x2 0)⟩
     ·have q3x:=(fourC (obj_step (unhide HQ_6) hx)).2.2.2
      have HRx:=hide (obj_step (unhide HR_6) hx)
      obtain⟨d0,d1,d2,d3,d4,d5,d6,d7,d8⟩:=nine (unhide HRx)
      have f0:=obj_free (unhide HRx) 0
      have f1:=obj_free (unhide HRx) 1
      have f2:=obj_free (unhide HRx) 2
      have f3:=obj_free (unhide HRx) 3
      have f4:=obj_free (unhide HRx) 4
      have f5:=obj_free (unhide HRx) 5
      have f6:=obj_free (unhide HRx) 6
      have f7:=obj_free (unhide HRx) 7
      have f8:=obj_free (unhide HRx) 8
      have hrl:=obj_lt (unhide HRx)
      have q3s:=far9 (g:=w.heap.size+2) (i:=3) (b0:= .int .i64 n.id) (b1:= .int .i64 n.par) (b2:= .slice a_k n.kids.length a_ck) (b3:= .int .i64 n.next) (b4:= .slice av RL.length cv) (b5:= .slice a_o n.out.length a_co) (b6:= .slice a_s n.seen.length a_cs) (b7:= .int .i64 n.old) (b8:= .slice (some ⟨gv,0,none⟩) (n.reqs.length+1) vc) (show w.heap.size+2≠W1.heap.size by omega) q3x
      go_simp
      refine wpAny_one 1 rfl (by kernel_rfl) (by rfl) ?_
      go_simp
      refine wpAny_one 2 rfl (by kernel_rfl) (by rfl) ?_
      go_simp
      refine wpAny_one 4 rfl (by kernel_rfl) (by rfl) ?_
      go_simp
      refine wpAny_done (by kernel_rfl) ?_
      go_simp
      go_wp2_with fail
      go_meet
      case rel=>exact⟨rfl,GR.setW_blk [.int .i64 n.id,.int .i64 n.par,.slice a_k n.kids.length a_ck,.int .i64 n.next,.slice av RL.length cv,.slice a_o n.out.length a_co,.slice a_s n.seen.length a_cs,.int .i64 n.old,.slice (some ⟨gv,0,none⟩) (n.reqs.length+1) vc] (o:=0) (xs:=[.int .i64 0,.int .i64 0,.slice none 0 0,.int .i64 0,.slice none 0 0,.slice none 0 0,.slice none 0 0,.int .i64 0,.slice none 0 0]) (unhide HRx),(KeepsL.of_below hx).trans (setW_keeps [.int .i64 n.id,.int .i64 n.par,.slice a_k n.kids.length a_ck,.int .i64 n.next,.slice av RL.length cv,.slice a_o n.out.length a_co,.slice a_s n.seen.length a_cs,.int .i64 n.old,.slice (some ⟨gv,0,none⟩) (n.reqs.length+1) vc] x 0)⟩
    case rest=>
     obtain⟨rfl,e4,hkf⟩:=hcut
     rename_i wz _ _ _
     have HBZ:=hide ((unhide HB6).trans (hkf.below (B:=w.heap.size) (fun x hx=>by simp at hx;omega) (unhide HB6).size))
     have HLZ:=hide ((unhide HL6).keeps hkf (fun x hx=>by simp at hx;omega))
     have HPZ:=hide ((unhide HP6).keeps hkf (fun x hx=>by simp at hx;omega))
     obtain⟨x0,x1,x2,x3,x4,x5,x6,x7,x8⟩:=nine e4
     clear e4 hkf
     go_wp2_with fail
     refine bodyPost_ret (v:= .tuple #[.agg #[.int .i64 n.id,.int .i64 n.par,.slice a_k n.kids.length a_ck,.int .i64 n.next,.slice av RL.length cv,.slice a_o n.out.length a_co,.slice a_s n.seen.length a_cs,.int .i64 n.old,.slice (some ⟨gv,0,none⟩) (n.reqs.length+1) vc],.int .i64 0]) (by simp[results,Tryz.results48,go_sem,x0,x1,x2,x3,x4,x5,x6,x7,x8]) rfl ?_
     rw [unhide HK]
     refine⟨⟨a_k,av,a_o,a_s,(some ⟨gv,0,none⟩),a_ck,cv,a_co,a_cs,vc⟩,?_,fun W'' ho=>?_,(unhide HBZ).mono hB,Apart.of_below (unhide HBZ)⟩
     ·simp[ndv,ndc,setReqs,setPu,unhide hITn]
     ·have hold:=((unhide HNO).kc (k:=9) ((KC.of_below (unhide HBZ)).trans (KC.out (unhide H9) ho)) (by omega))
      have hp:=(unhide HPZ).out (w:=w) (by omega) ho
      have hr:=(unhide HLZ).out (w:=w) (by omega) ho
      have hp9:∀g',av.map (fun y=>y.block)=some g'→6 < newC w.heap.size 9 c g':=fun g' hg'=>by
       have h1:=hp.lo (own_blkA hp hg')
       rw [newC_new (by omega)]
       omega
      exact NQ.put hold hold _ _ rfl rfl rfl rfl (hp.lies encP_length).1 (fun g' hg' _=> .inr (hp9 g' hg')) hold.o (fun y hy=> .inl (hold.co y hy)) hr (fun y hy=> .inr (by have h1:=hr.lo hy;rw [newC_new (by omega)];omega))
       (fun g' hg' _ h6=>⟨fun e=>by have:=hold.co g' e;omega,hp.ne hr (by decide) (own_blkA hp hg')⟩) (fun y hy h6=>by have:=hold.co y hy;omega)
theorem specAdm_keep_false (n:Nd) (a_k a_p a_o a_s a_r:Option Addr) (a_ck a_cp a_co a_cs a_cr:Nat) (G:Blks) (c:Nat→Nat) (K no:Int) (k:ByteArray) (nn mK mF mT mI mL:Int) (mk:ByteArray) (mN:Int) (w:World) (B:Nat) (hB:B≤w.heap.size) (h9:∀x,6 < c x→c x=9) (hz:NdSz n 1048576) (hkz:k.size≤1048576) (hP:∃g,a_p=some ⟨g,0,none⟩) (hPc:n.pu.length≤a_cp) (hR:∃g,a_r=some ⟨g,0,none⟩) (hRc:n.reqs.length≤a_cr) (hok:reqsB n=true) (hs:¬no≤n.old) (hf:reqF n.reqs no=false) (RL:List Pu) (hu:addP n.pu k 0 (-1) 1 nn=(RL,false)) (h:NQ w B n (⟨a_k,a_p,a_o,a_s,a_r,a_ck,a_cp,a_co,a_cs,a_cr⟩:Ads) G c):Calls Tryz.prog 48 #[ndv n (⟨a_k,a_p,a_o,a_s,a_r,a_ck,a_cp,a_co,a_cs,a_cr⟩:Ads),.agg #[.int .i64 K,.int .i64 no,.string k,.int .i64 nn,.int .i64 mK,.int .i64 mF,.int .i64 mT,.int .i64 mI,.int .i64 mL,.string mk,.int .i64 mN]] w (GivesR w B c (keepN n ⟨no,k,nn,1⟩,1)):=by
 obtain⟨gp,hgp⟩:=hP
 obtain⟨gr,hgr⟩:=hR
 subst hgp
 subst hgr
 have HSP:=hide (fun W (ha:PursesAt W (some ⟨gp,0,none⟩) n.pu)=>specSpend gp 0 a_cp n.pu k nn W (Nat.le_trans hz.p (by omega)) hPc hz.pk hkz ha)
 unfold GivesO at HSP
 rw [hu] at HSP
 have hp:=reqs_asc hok
 have HRQ:=hide (fun W1 (ha:ReqAt W1 (some ⟨gr,0,none⟩) n.reqs)=>specReq n (⟨a_k,(some ⟨gp,0,none⟩),a_o,a_s,(some ⟨gr,0,none⟩),a_ck,a_cp,a_co,a_cs,a_cr⟩:Ads) no W1 (by omega) hp.1 ha)
 rw [show reqJ n.reqs no= -1 by unfold reqJ;rw [hf];rfl] at HRQ
 have HPW:=hide hp.1
 have hl30:=hp.2.1
 clear hp hok hf hu hkz hz hPc
 unfold GivesR
 have H9:=hide h9
 clear h9
 have HNO:=hide (h.nine hB)
 clear h
 go_enter Tryz.func48,Tryz.ntmps48
 go_upto_region 1 with fail
 refine wp_at (fun W0 hW=>?_)
 obtain⟨e1,e2,e3,e4⟩:=allocs3E w (.cells (ndc n (⟨a_k,(some ⟨gp,0,none⟩),a_o,a_s,(some ⟨gr,0,none⟩),a_ck,a_cp,a_co,a_cs,a_cr⟩:Ads)) 30) (.cells #[.int .i64 K,.int .i64 no,.string k,.int .i64 nn,.int .i64 mK,.int .i64 mF,.int .i64 mT,.int .i64 mI,.int .i64 mL,.string mk,.int .i64 mN] 48) (.cells zc9 30)
 rw [←hW] at e1 e2 e3 e4
 have HN:=hide e1
 have HO:=hide e2
 have HR:=hide e3
 have HB0:=hide e4
 have HN0:=hide ((unhide HNO).kc (k:=9) (KC.of_below e4) (by omega))
 clear hW e1 e2 e3 e4
 obtain⟨⟨p0,p1,p2,p3,p4,p5,p6,p7,p8,p9,p10⟩,_⟩:=eleven_at (unhide HO)
 obtain⟨c0,c1,c2,c3,c4,c5,c6,c7,c8⟩:=nine (unhide HN)
 have hol:=obj_lt (unhide HO)
 have hnl:=obj_lt (unhide HN)
 go_wp2_with fail
 refine(unhide HRQ W0 (unhide HN0).at.r).mono ?_
 rintro e W1 ⟨rfl,hb1⟩
 have HN_1:=hide (obj_step (unhide HN) hb1)
 have HO_1:=hide (obj_step (unhide HO) hb1)
 have HR_1:=hide (obj_step (unhide HR) hb1)
 have HB1:=hide ((unhide HB0).trans (hb1.mono (unhide HB0).size))
 clear hb1 c0 c1 c2 c3 c4 c5 c6 c7 c8 p0 p1 p2 p3 p4 p5 p6 p7 p8 p9 p10 hnl hol HRQ HN HO HR HN0 HB0
 obtain⟨⟨p0,p1,p2,p3,p4,p5,p6,p7,p8,p9,p10⟩,_⟩:=eleven_at (unhide HO_1)
 obtain⟨c0,c1,c2,c3,c4,c5,c6,c7,c8⟩:=nine (unhide HN_1)
 have hol:=obj_lt (unhide HO_1)
 have hnl:=obj_lt (unhide HN_1)
 have hrl:=obj_lt (unhide HR_1)
 go_upto_region 9 with fail
 refine wp_at (fun W2 hW2=>?_)
 have hbw2:=below_one W1 (.cells #[.int .i64 no,.string k,.int .i64 nn,.int .i64 1] 56)
 have hq2:=heap_alloc_new W1 (.cells #[.int .i64 no,.string k,.int .i64 nn,.int .i64 1] 56)
 rw [←hW2] at hbw2 hq2
 have HN_2:=hide (obj_step (unhide HN_1) hbw2)
 have HO_2:=hide (obj_step (unhide HO_1) hbw2)
 have HR_2:=hide (obj_step (unhide HR_1) hbw2)
 have HQ_2:=hide hq2
 have HB2:=hide ((unhide HB1).trans (hbw2.mono (unhide HB1).size))
 have hqb:w.heap.size+2 < W1.heap.size:=hrl
 clear hW2 hbw2 hq2 c0 c1 c2 c3 c4 c5 c6 c7 c8 p0 p1 p2 p3 p4 p5 p6 p7 p8 p9 p10 HN_1 HO_1 HR_1 HB1 hnl hol hrl
 obtain⟨⟨p0,p1,p2,p3,p4,p5,p6,p7,p8,p9,p10⟩,_⟩:=eleven_at (unhide HO_2)
 obtain⟨c0,c1,c2,c3,c4,c5,c6,c7,c8⟩:=nine (unhide HN_2)
 have hol:=obj_lt (unhide HO_2)
 have hnl:=obj_lt (unhide HN_2)
 have hql:=obj_lt (unhide HQ_2)
 go_wp2_with fail
 refine(unhide HSP W2 ((unhide HNO).kc (k:=9) (KC.of_below (unhide HB2)) (by omega)).at.p).mono ?_
 rintro e W3 ⟨v3,rfl,hne3,hrow3,hb3⟩
 obtain⟨av,cv,rfl,_⟩:=GR.own_at (enc:=encP) (sz:=4) encP_length hrow3
 have HRW:=hide (LO.own (en:=encP) hrow3)
 have HN_3:=hide (obj_step (unhide HN_2) hb3)
 have HO_3:=hide (obj_step (unhide HO_2) hb3)
 have HR_3:=hide (obj_step (unhide HR_2) hb3)
 have HQ_3:=hide (obj_step (unhide HQ_2) hb3)
 have HB3:=hide ((unhide HB2).trans (hb3.mono (unhide HB2).size))
 clear hb3 hne3 hrow3 HSP HN_2 HO_2 HR_2 HQ_2 HB2 c0 c1 c2 c3 c4 c5 c6 c7 c8 p0 p1 p2 p3 p4 p5 p6 p7 p8 p9 p10 hnl hol
 obtain⟨c0,c1,c2,c3,c4,c5,c6,c7,c8⟩:=nine (unhide HN_3)
 obtain⟨q0,q1,q2,q3⟩:=fourC (unhide HQ_3)
 have cf:=obj_free (unhide HN_3) 4
 have qf:=obj_free (unhide HQ_3) 3
 have hnl:=obj_lt (unhide HN_3)
 have hql3:=obj_lt (unhide HQ_3)
 go_upto_region 13 with fail
 refine wp_at (fun W4 hW4=>?_)
 have HN_4:Hid (W4.heap[w.heap.size]?=some (.cells #[.int .i64 n.id,.int .i64 n.par,.slice a_k n.kids.length a_ck,.int .i64 n.next,.slice (some ⟨gp,0,none⟩) n.pu.length a_cp,.slice a_o n.out.length a_co,.slice a_s n.seen.length a_cs,.int .i64 n.old,.slice (some ⟨gr,0,none⟩) n.reqs.length a_cr] 30 (0,0))):=by rw [hW4];exact unhide HN_3
 have HQ_4:Hid (W4.heap[W1.heap.size]?=some (.cells #[.int .i64 no,.string k,.int .i64 nn,.int .i64 1] 56 (0,0))):=by rw [hW4];exact unhide HQ_3
 have HO_4:Hid (W4.heap[w.heap.size+1]?=some (.cells #[.int .i64 K,.int .i64 no,.string k,.int .i64 nn,.int .i64 mK,.int .i64 mF,.int .i64 mT,.int .i64 mI,.int .i64 mL,.string mk,.int .i64 mN] 48 (0,0))):=by rw [hW4];exact unhide HO_3
 have HR_4:Hid (W4.heap[w.heap.size+2]?=some (.cells zc9 30 (0,0))):=by rw [hW4];exact unhide HR_3
 have HB4:Hid (Below w.heap.size w W4):=by rw [hW4];exact unhide HB3
 clear hW4 HRW
 clear c0 c1 c2 c3 c4 c5 c6 c7 c8 q0 q1 q2 q3 cf qf HN_3 HO_3 HR_3 HQ_3 HB3
 have HA4:=hide ((unhide HNO).kc (k:=9) (KC.of_below (unhide HB4)) (by omega)).at.r
 obtain⟨c0,c1,c2,c3,c4,c5,c6,c7,c8⟩:=nine (unhide HN_4)
 obtain⟨⟨p0,p1,p2,p3,p4,p5,p6,p7,p8,p9,p10⟩,_⟩:=eleven_at (unhide HO_4)
 have hnl:=obj_lt (unhide HN_4)
 have hol:=obj_lt (unhide HO_4)
 have hile:=reqI_le n.reqs no
 go_upto_block 0 with fail
 go_cut [10] from 11 (fun i wx=>i= .int .i64 (reqI n.reqs no:Nat)∧Ge W4 wx)
 case first=>
  go_wp2_with fail
  go_loopw [10] (fun i wr=>∃j q:Nat,j≤n.reqs.length∧i= .int .i64 j∧(∀x (hx:x < n.reqs.length),x < j→n.reqs[x].no < no)∧wr=W4.drewN q) (fun i _=>n.reqs.length - (intOf i).toNat)
  case atStart=>exact⟨0,0,Nat.zero_le _,rfl,fun x hx h=>(by omega),rfl⟩
  case round=>
   obtain⟨j,q,hj,rfl,hlo,rfl⟩:=hrel
   have HLO:=hide hlo
   clear hlo
   by_cases hlt:j < n.reqs.length
   ·obtain⟨g',off',e0,hg',y0,_,_,_⟩:=ReqAt.four (unhide HA4) j hlt
    cases e0
    rw [Nat.zero_add] at y0
    have HUP:=hide (fun(h:no≤n.reqs[j].no)=>reqI_at (l:=n.reqs) (no:=no) (unhide HPW) (i:=j) hj (unhide HLO) (fun x hx hjx=>by
     rcases Nat.lt_or_eq_of_le hjx with h1|h1
     ·have:=List.pairwise_iff_getElem.1 (unhide HPW) j x hlt hx h1;omega
     ·subst h1;exact h))
    have HMORE:=hide (fun(h:n.reqs[j].no < no)=>show∀x (hx:x < n.reqs.length),x < j+1→n.reqs[x].no < no from fun x hx h2=>by
     by_cases e:x=j
     ·subst e;exact h
     ·exact unhide HLO x hx (by omega))
    generalize n.reqs[j].no=rn at *
    by_cases hcmp:rn < no
    ·go_wp2_with fail
     go_quiet (fail)
     go_wp2_with fail
     go_roundw
     case rel=>exact⟨j+1,_,by omega,by go_num,unhide HMORE hcmp,rfl⟩
     case measure=>simp[intOf];omega
    ·have hcmp':decide (rn < no)=false:=decide_eq_false hcmp
     have HJ:=hide (unhide HUP (by omega))
     go_wp2_with fail
     go_quiet (fail)
     go_wp2_with fail
     go_meet
     case rel=>exact⟨by rw [unhide HJ],⟨rfl,rfl,rfl,Nat.le_refl _,fun _ _=>rfl⟩⟩
   ·have hje:j=n.reqs.length:=by omega
    subst hje
    have HJ:=hide (reqI_at (l:=n.reqs) (no:=no) (unhide HPW) (i:=n.reqs.length) (Nat.le_refl _) (unhide HLO) (fun x hx hjx=>by omega))
    have hcmp':decide ((n.reqs.length:Int) < (n.reqs.length:Int))=false:=by simp
    go_wp2_with fail
    go_quiet (fail)
    go_wp2_with fail
    go_meet
    case rel=>exact⟨by rw [unhide HJ],⟨rfl,rfl,rfl,Nat.le_refl _,fun _ _=>rfl⟩⟩
 case rest=>
  obtain⟨rfl,hge⟩:=hcut
  have HN_5:=hide (obj_step (unhide HN_4) hge)
  have HR_5:=hide (obj_step (unhide HR_4) hge)
  have HQ_5:=hide (obj_step (unhide HQ_4) hge)
  have HB5:=hide ((unhide HB4).trans (hge.mono (unhide HB4).size))
  have HA5:=hide (GR.At.below (unhide HA4) hge)
  skip
  clear hge c0 c1 c2 c3 c4 c5 c6 c7 c8 p0 p1 p2 p3 p4 p5 p6 p7 p8 p9 p10 hnl hol HN_4 HO_4 HR_4 HQ_4 HB4 HA4
  obtain⟨c0,c1,c2,c3,c4,c5,c6,c7,c8⟩:=nine (unhide HN_5)
  obtain⟨q0,q1,q2,q3⟩:=fourC (unhide HQ_5)
  have hnl:=obj_lt (unhide HN_5)
  have hql5:=obj_lt (unhide HQ_5)
  have HIQ:=hide (show insQ n.reqs ⟨no,k,nn,1⟩=n.reqs.take (reqI n.reqs no)++⟨no,k,nn,1⟩::n.reqs.drop (reqI n.reqs no) from rfl)
  generalize reqI n.reqs no=pos at *
  obtain⟨IQ,hIQ0⟩:∃IQ,insQ n.reqs ⟨no,k,nn,1⟩=IQ:=⟨_,rfl⟩
  rw [hIQ0] at HIQ
  have HIN:=hide hIQ0
  clear hIQ0
  go_upto_region 16 with fail
  go_cut [10] from 11 (fun i wx=>i= .int .i64 pos∧∃va vc,(∃g,va=some ⟨g,0,none⟩)∧n.reqs.length+1≤vc∧wx.heap[w.heap.size]?=some (.cells #[.int .i64 n.id,.int .i64 n.par,.slice a_k n.kids.length a_ck,.int .i64 n.next,.slice (some ⟨gp,0,none⟩) n.pu.length a_cp,.slice a_o n.out.length a_co,.slice a_s n.seen.length a_cs,.int .i64 n.old,.slice va (n.reqs.length+1) vc] 30 (0,0))∧wx.heap[w.heap.size+2]?=some (.cells zc9 30 (0,0))∧wx.heap[W1.heap.size]?=some (.cells #[.int .i64 no,.string k,.int .i64 nn,.int .i64 1] 56 (0,0))∧LO 56 encRq 4 (w.heap.size+3) wx va vc IQ∧Below w.heap.size w wx)
  case first=>
   have hwb:wc.heap.size≤wc.heap.size:=Nat.le_refl _
   have y8:=cell_und hnl c8
   have z0:=cell_und hql5 q0
   have z1:=cell_und hql5 q1
   have z2:=cell_und hql5 q2
   have z3:=cell_und hql5 q3
   clear c0 c1 c2 c3 c4 c5 c6 c7 c8 q0 q1 q2 q3
   have hpc:pos≤a_cr:=by omega
   have HTL:=hide (show ReqAt wc (some ⟨gr,0,none⟩) (n.reqs.take pos) from GR.At.take (unhide HA5) pos)
   obtain⟨AD,hAD,hDR⟩:∃AD,(if a_cr=pos then some (⟨gr,0,none⟩:Addr) else some ⟨gr,pos*4,none⟩)=AD∧ReqAt wc AD (n.reqs.drop pos):=by
    by_cases hcz:a_cr=pos
    ·refine⟨_,rfl,?_⟩
     rw [show n.reqs.drop pos=[] by apply List.drop_eq_nil_of_le;omega]
     exact GR.at_nil _ _
    ·refine⟨_,rfl,?_⟩
     rw [if_neg hcz]
     exact GR.At.drop (unhide HA5) pos
   have HDR:=hide hDR
   clear hDR
   refine wp_region_mixB 15 wc.heap.size (by kernel_rfl) ?_
   show wpMixB _ _ _ _ _ _ 16 (Array.replicate 16 false) _ _
   refine wpMixB_take 1 20 hwb rfl (by kernel_rfl) (by kernel_rfl) (by kernel_rfl) (by kernel_rfl) (by kernel_rfl) (fun _ _ _ _ h=>h) (fun K hK=>?_)
   go_simp
   first
    |(refine hK _ ?_;clear hK K)
    |(apply Exists.intro
      refine⟨fun _=>?_,hK _ ?_⟩
      (first|rfl|(trace_state;fail))
      clear hK K)
   refine wpMixB_take 2 20 hwb rfl (by kernel_rfl) (by kernel_rfl) (by kernel_rfl) (by kernel_rfl) (by kernel_rfl) (fun _ _ _ _ h=>h) (fun K hK=>?_)
   go_simp
   first
    |(refine hK _ ?_;clear hK K)
    |(apply Exists.intro
      refine⟨fun _=>?_,hK _ ?_⟩
      (first|rfl|(trace_state;fail))
      clear hK K)
   refine wpMixB_take 3 20 hwb rfl (by kernel_rfl) (by kernel_rfl) (by kernel_rfl) (by kernel_rfl) (by kernel_rfl) (fun _ _ _ _ h=>h) (fun K hK=>?_)
   go_simp
   first
    |(refine hK _ ?_;clear hK K)
    |(apply Exists.intro
      refine⟨fun _=>?_,hK _ ?_⟩
      (first|rfl|(trace_state;fail))
      clear hK K)
   refine wpMixB_take 4 20 hwb rfl (by kernel_rfl) (by kernel_rfl) (by kernel_rfl) (by kernel_rfl) (by kernel_rfl) (fun _ _ _ _ h=>h) (fun K hK=>?_)
   go_simp
   first
    |(refine hK _ ?_;clear hK K)
    |(apply Exists.intro
      refine⟨fun _=>?_,hK _ ?_⟩
      (first|rfl|(trace_state;fail))
      clear hK K)
   refine wpMixB_take 6 20 hwb rfl (by kernel_rfl) (by kernel_rfl) (by kernel_rfl) (by kernel_rfl) (by kernel_rfl) (fun _ _ _ _ h=>h) (fun K hK=>?_)
   go_simp
   first
    |(refine hK _ ?_;clear hK K)
    |(apply Exists.intro
      refine⟨fun _=>?_,hK _ ?_⟩
      (first|rfl|(trace_state;fail))
      clear hK K)
   refine wpMixB_take 9 20 hwb rfl (by kernel_rfl) (by kernel_rfl) (by kernel_rfl) (by kernel_rfl) (by kernel_rfl) (fun _ _ _ _ h=>h) (fun K hK=>?_)
   go_simp
   first
    |(refine hK _ ?_;clear hK K)
    |(apply Exists.intro
      refine⟨fun _=>?_,hK _ ?_⟩
      (first|rfl|(trace_state;fail))
      clear hK K)
   refine wpMixB_take 10 20 hwb rfl (by kernel_rfl) (by kernel_rfl) (by kernel_rfl) (by kernel_rfl) (by kernel_rfl) (fun _ _ _ _ h=>h) (fun K hK=>?_)
   go_simp
   first
    |(refine hK _ ?_;clear hK K)
    |(apply Exists.intro
      refine⟨fun _=>?_,hK _ ?_⟩
      (first|rfl|(trace_state;fail))
      clear hK K)
   refine wpMixB_take 11 20 hwb rfl (by kernel_rfl) (by kernel_rfl) (by kernel_rfl) (by kernel_rfl) (by kernel_rfl) (fun _ _ _ _ h=>h) (fun K hK=>?_)
   go_simp
   first
    |(refine hK _ ?_;clear hK K)
    |(apply Exists.intro
      refine⟨fun _=>?_,hK _ ?_⟩
      (first|rfl|(trace_state;fail))
      clear hK K)
   refine wpMixB_take 12 20 hwb rfl (by kernel_rfl) (by kernel_rfl) (by kernel_rfl) (by kernel_rfl) (by kernel_rfl) (fun _ _ _ _ h=>h) (fun K hK=>?_)
   go_simp
   first
    |(refine hK _ ?_;clear hK K)
    |(apply Exists.intro
      refine⟨fun _=>?_,hK _ ?_⟩
      (first|rfl|(trace_state;fail))
      clear hK K)
   clear y8 z0 z1 z2 z3
   have hlt1:(n.reqs.take pos).length=pos:=by rw [List.length_take];omega
   have hld1:(n.reqs.drop pos).length=n.reqs.length - pos:=by rw [List.length_drop]
   have hL1:(n.reqs.take pos++[(⟨no,k,nn,1⟩:Rq)]).length=pos+1:=by rw [List.length_append,hlt1];rfl
   have hL2:(n.reqs.take pos++[(⟨no,k,nn,1⟩:Rq)]++n.reqs.drop pos).length=pos+1+(n.reqs.length - pos):=by rw [List.length_append,hL1,hld1]
   obtain⟨i0,hi,hz0,hz1,hz2⟩:=info_parts infoReq
   have HG0:=hide (Below.refl wc.heap.size wc)
   refine wpMixB_two 0 7 rfl rfl (by kernel_rfl) (by rfl) (by rfl) (by decide) (by decide) (fun x1 hx1=>?_) (fun x1 hx1=>?_)
   ·go_simp
    have HGx1:=hide ((unhide HG0).trans (hx1.mono (unhide HG0).size))
    have hsx1:wc.heap.size≤x1.heap.size:=(unhide HGx1).size
    clear hx1
    refine⟨(below_one x1 _).mono hsx1,?_⟩
    have hby1:=below_one x1 (.cells #[] 56)
    have HVy1:=hide (show(x1.alloc (.cells #[] 56)).ownsRow wc.heap.size 56 4 (.slice (some ⟨x1.heap.size,0,none⟩) 0 0) 0 (GR.flat encRq []) from World.ownsRow_lit (base:=wc.heap.size) (e:=56) (size:=4) x1 #[] 0 hsx1 (by unfold maxLen;omega) (by simp))
    have HGy1:=hide ((unhide HGx1).trans (hby1.mono (unhide HGx1).size))
    clear hby1
    generalize hyy1:x1.alloc (.cells #[] 56)=y1 at *
    clear hyy1
    refine wpMixB_two 5 7 rfl rfl (by kernel_rfl) (by rfl) (by rfl) (by decide) (by decide) (fun x2 hx2=>?_) (fun x2 hx2=>?_)
    ·have HGx2:=hide ((unhide HGy1).trans (hx2.mono (unhide HGy1).size))
     have hsx2:wc.heap.size≤x2.heap.size:=(unhide HGx2).size
     have HVx2:=hide (GR.own_below (unhide HVy1) hx2)
     clear hx2
     obtain⟨v2,y2,hry2,hoy2,hgy2,hwy2⟩:=run_append_row encRq_length (by omega) x2 wc.heap.size 28 28 56 i0 (.agg #[.int .i64 0,.string ByteArray.empty,.int .i64 0,.int .i64 0]) 40 Tryz.underlying28 hi hz0 hz1 hz2 rfl (.slice (some ⟨x1.heap.size,0,none⟩) 0 0) 0 (GR.flat encRq ([])) (unhide HVx2) (some ⟨gr,0,none⟩) (n.reqs.take pos) a_cr (GR.At.below (unhide HTL) (unhide HGx2)) (flatRq_one _) (by unfold maxLen;omega) (by omega) hsx2
     rw [hlt1] at hry2 hoy2
     refine Lib.wp_append_run x2 (.tmp 93) (.tmp 97) 28 28 rfl _ _ (by simp[Act.eval]) (by simp[Act.eval]) v2 y2 hry2 ?_
     refine⟨(Below.refl _ _).grown hgy2 hsx2 (fun b hb=>((unhide HVx2).lt b hb).1),?_⟩
     go_simp
     have HGy2:=hide ((unhide HGx2).grown hgy2 hsx2 (fun b hb=>((unhide HVx2).lt b hb).1))
     have HVy2:Hid (y2.ownsRow wc.heap.size 56 4 v2 (pos) (GR.flat encRq (n.reqs.take pos))):=hide (by simpa [GR.flat_nil] using hoy2)
     obtain⟨avR,cvR,hsly2,_⟩:=GR.own_at (enc:=encRq) (sz:=4) (l:=n.reqs.take pos) encRq_length (by rw [hlt1];exact unhide HVy2)
     rw [hlt1] at hsly2
     subst hsly2
     clear hry2 hoy2 hgy2 hwy2
     refine wpMixB_one 7 rfl (by kernel_rfl) (by rfl) (by decide) (fun x3 hx3=>?_)
     go_simp
     have HGx3:=hide ((unhide HGy2).trans (hx3.mono (unhide HGy2).size))
     have hsx3:wc.heap.size≤x3.heap.size:=(unhide HGx3).size
     have HVx3:=hide (GR.own_below (unhide HVy2) hx3)
     clear hx3
     refine⟨(below_one x3 _).mono hsx3,?_⟩
     have hby3:=below_one x3 (.cells #[.int .i64 no,.string k,.int .i64 nn,.int .i64 1] 56)
     have HQy3:=hide (heap_alloc_new x3 (.cells #[.int .i64 no,.string k,.int .i64 nn,.int .i64 1] 56))
     have HVy3:=hide (GR.own_below (unhide HVx3) hby3)
     have HEy3:=hide (show∀b,((.slice avR (pos) cvR:Value)).ownBlock=some b→b≠x3.heap.size from fun b hb=>by have:=((unhide HVx3).lt b hb).2;omega)
     have HGy3:=hide ((unhide HGx3).trans (hby3.mono (unhide HGx3).size))
     clear hby3
     generalize hyy3:x3.alloc (.cells #[.int .i64 no,.string k,.int .i64 nn,.int .i64 1] 56)=y3 at *
     clear hyy3
     generalize x3.heap.size=rb at *
     refine wpMixB_one 8 rfl (by kernel_rfl) (by rfl) (by decide) (fun x4 hx4=>?_)
     have HGx4:=hide ((unhide HGy3).trans (hx4.mono (unhide HGy3).size))
     have hsx4:wc.heap.size≤x4.heap.size:=(unhide HGx4).size
     have HVx4:=hide (GR.own_below (unhide HVy3) hx4)
     have HQx4:=hide (obj_step (unhide HQy3) hx4)
     clear hx4
     obtain⟨v4,y4,hry4,hoy4,hgy4,hwy4⟩:=run_append_where x4 wc.heap.size 28 28 56 i0 (.agg #[.int .i64 0,.string ByteArray.empty,.int .i64 0,.int .i64 0]) 4 40 Tryz.underlying28 hi hz0 hz1 hz2 rfl (by decide) (.slice avR (pos) cvR) (pos) (GR.flat encRq (n.reqs.take pos)) (unhide HVx4) ⟨rb,0,none⟩ 1 1 (encRq ⟨no,k,nn,1⟩) rfl (World.news_of_block (unhide HQx4)) (encRq_one _) (by unfold maxLen;omega) (by omega) hsx4
     refine Lib.wp_append_run x4 (.tmp 98) (.tmp 100) 28 28 rfl _ _ (by simp[Act.eval]) (by simp[Act.eval]) v4 y4 hry4 ?_
     refine⟨(Below.refl _ _).grown hgy4 hsx4 (fun b hb=>((unhide HVx4).lt b hb).1),?_⟩
     go_simp
     have HGy4:=hide ((unhide HGx4).grown hgy4 hsx4 (fun b hb=>((unhide HVx4).lt b hb).1))
     have HVy4:Hid (y4.ownsRow wc.heap.size 56 4 v4 (pos+1) (GR.flat encRq (n.reqs.take pos++[(⟨no,k,nn,1⟩:Rq)]))):=hide (by rw [GR.flat_append,GR.flat_one];exact hoy4)
     have HQy4:=hide (show y4.heap[rb]?=some (.cells #[.int .i64 no,.string k,.int .i64 nn,.int .i64 1] 56 (0,0)) from by rw [hgy4.block _ (obj_lt (unhide HQx4)) (fun hm=>unhide HEy3 _ hm.symm rfl)];exact unhide HQx4)
     have HEy4:=hide (show∀b,(v4).ownBlock=some b→b≠rb from fun b hb=>(hwy4 b hb).elim (fun h=>unhide HEy3 b h) (fun h=>by have:=obj_lt (unhide HQx4);omega))
     obtain⟨avO,cvO,hsly4,_⟩:=GR.own_at (enc:=encRq) (sz:=4) (l:=n.reqs.take pos++[(⟨no,k,nn,1⟩:Rq)]) encRq_length (by rw [hL1];exact unhide HVy4)
     rw [hL1] at hsly4
     subst hsly4
     clear hry4 hoy4 hgy4 hwy4
     refine wpMixB_one 13 rfl (by kernel_rfl) (by rfl) (by decide) (fun x5 hx5=>?_)
     have HGx5:=hide ((unhide HGy4).trans (hx5.mono (unhide HGy4).size))
     have hsx5:wc.heap.size≤x5.heap.size:=(unhide HGx5).size
     have HVx5:=hide (GR.own_below (unhide HVy4) hx5)
     have HQx5:=hide (obj_step (unhide HQy4) hx5)
     clear hx5
     obtain⟨v5,y5,hry5,hoy5,hgy5,hwy5⟩:=run_append_row encRq_length (by omega) x5 wc.heap.size 28 28 56 i0 (.agg #[.int .i64 0,.string ByteArray.empty,.int .i64 0,.int .i64 0]) 40 Tryz.underlying28 hi hz0 hz1 hz2 rfl (.slice avO (pos+1) cvO) (pos+1) (GR.flat encRq (n.reqs.take pos++[(⟨no,k,nn,1⟩:Rq)])) (unhide HVx5) AD (n.reqs.drop pos) (a_cr - pos) (GR.At.below (unhide HDR) (unhide HGx5)) (flatRq_one _) (by unfold maxLen;omega) (by omega) hsx5
     rw [hld1] at hry5 hoy5
     refine Lib.wp_append_run x5 (.tmp 101) (.tmp 105) 28 28 rfl _ _ (by simp[Act.eval]) (by simp[Act.eval]) v5 y5 hry5 ?_
     refine⟨(Below.refl _ _).grown hgy5 hsx5 (fun b hb=>((unhide HVx5).lt b hb).1),?_⟩
     go_simp
     have HGy5:=hide ((unhide HGx5).grown hgy5 hsx5 (fun b hb=>((unhide HVx5).lt b hb).1))
     have HVy5:Hid (y5.ownsRow wc.heap.size 56 4 v5 (pos+1+(n.reqs.length - pos)) (GR.flat encRq (n.reqs.take pos++[(⟨no,k,nn,1⟩:Rq)]++n.reqs.drop pos))):=hide (by rw [GR.flat_append];exact hoy5)
     have HQy5:=hide (show y5.heap[rb]?=some (.cells #[.int .i64 no,.string k,.int .i64 nn,.int .i64 1] 56 (0,0)) from by rw [hgy5.block _ (obj_lt (unhide HQx5)) (fun hm=>unhide HEy4 _ hm.symm rfl)];exact unhide HQx5)
     have HEy5:=hide (show∀b,(v5).ownBlock=some b→b≠rb from fun b hb=>(hwy5 b hb).elim (fun h=>unhide HEy4 b h) (fun h=>by have:=obj_lt (unhide HQx5);omega))
     obtain⟨avT,cvT,hsly5,_⟩:=GR.own_at (enc:=encRq) (sz:=4) (l:=n.reqs.take pos++[(⟨no,k,nn,1⟩:Rq)]++n.reqs.drop pos) encRq_length (by rw [hL2];exact unhide HVy5)
     rw [hL2] at hsly5
     subst hsly5
     clear hry5 hoy5 hgy5 hwy5
     have hwb2:wc.heap.size≤y5.heap.size:=(unhide HGy5).size
     refine wpMixB_take 14 20 hwb2 rfl (by kernel_rfl) (by kernel_rfl) (by kernel_rfl) (by kernel_rfl) (by kernel_rfl) (fun _ _ _ _ h=>h) (fun K hK=>?_)
     go_simp
     first
      |(refine hK _ ?_;clear hK K)
      |(apply Exists.intro
        refine⟨fun _=>?_,hK _ ?_⟩
        (first|rfl|(trace_state;fail))
        clear hK K)
     refine wpMixB_leave (by kernel_rfl) (fun z hz=>?_)
     have HGz:=hide ((unhide HGy5).trans (hz.mono (unhide HGy5).size))
     have HVz:=hide (GR.own_below (unhide HVy5) hz)
     have hsz:wc.heap.size≤z.heap.size:=(unhide HGz).size
     clear hz
     have HNz:Hid (z.heap[w.heap.size]?=some (.cells #[.int .i64 n.id,.int .i64 n.par,.slice a_k n.kids.length a_ck,.int .i64 n.next,.slice (some ⟨gp,0,none⟩) n.pu.length a_cp,.slice a_o n.out.length a_co,.slice a_s n.seen.length a_cs,.int .i64 n.old,.slice (some ⟨gr,0,none⟩) n.reqs.length a_cr] 30 (0,0))):=by unfold Hid;rw [(unhide HGz).block _ hnl];exact unhide HN_5
     have HRz:Hid (z.heap[w.heap.size+2]?=some (.cells zc9 30 (0,0))):=by unfold Hid;rw [(unhide HGz).block _ (obj_lt (unhide HR_5))];exact unhide HR_5
     have HQz:Hid (z.heap[W1.heap.size]?=some (.cells #[.int .i64 no,.string k,.int .i64 nn,.int .i64 1] 56 (0,0))):=by unfold Hid;rw [(unhide HGz).block _ hql5];exact unhide HQ_5
     have kc:=(nine (unhide HNz)).2.2.2.2.2.2.2.2
     have kf:=obj_free (unhide HNz) 8
     refine wpAny_one 15 rfl (by kernel_rfl) (by rfl) ?_
     go_simp
     refine wpAny_done (by kernel_rfl) ?_
     go_simp
     go_wp2_with fail
     go_meet
     case rel=>
      refine⟨rfl,avT,cvT,?_,?_,?_,?_,?_,?_,?_⟩
      ·rcases(unhide HVz).2 with⟨_,hn⟩|⟨g,cap,cur,hv,_⟩
       ·omega
       ·simp only[Value.slice.injEq] at hv
        exact⟨g,hv.1⟩
      ·rcases(unhide HVz).2 with⟨_,hn⟩|⟨g,cap,cur,hv,_,_,hnc,_⟩
       ·omega
       ·simp only[Value.slice.injEq] at hv
        omega
      ·have h:=blk_setO (unhide HNz) 8 (.slice avT (pos+1+(n.reqs.length - pos)) cvT)
       rw [show pos+1+(n.reqs.length - pos)=n.reqs.length+1 by omega] at h ⊢
       exact h
      ·exact obj_set _ (by omega) (unhide HRz)
      ·exact obj_set _ (by omega) (unhide HQz)
      ·have h:=LO.own (en:=encRq) (cp:=cvT) (l:=n.reqs.take pos++[(⟨no,k,nn,1⟩:Rq)]++n.reqs.drop pos) (by rw [hL2];exact unhide HVz)
       rw [unhide HIQ]
       rw [List.append_assoc] at h
       exact(h.keeps (KeepsL.set _) (fun x hx=>by simp at hx;omega)).lower (by omega)
      ·exact((unhide HB5).trans ((unhide HGz).mono (unhide HB5).size)).setCell (p:=⟨w.heap.size,8,none⟩) (Nat.le_refl _) _
    ·go_simp
     have HGx2:=hide ((unhide HGy1).trans (hx2.mono (unhide HGy1).size))
     have hsx2:wc.heap.size≤x2.heap.size:=(unhide HGx2).size
     have HVx2:=hide (GR.own_below (unhide HVy1) hx2)
     clear hx2
     refine⟨(below_one x2 _).mono hsx2,?_⟩
     have hby2:=below_one x2 (.cells #[.int .i64 no,.string k,.int .i64 nn,.int .i64 1] 56)
     have HQy2:=hide (heap_alloc_new x2 (.cells #[.int .i64 no,.string k,.int .i64 nn,.int .i64 1] 56))
     have HVy2:=hide (GR.own_below (unhide HVx2) hby2)
     have HEy2:=hide (show∀b,((.slice (some ⟨x1.heap.size,0,none⟩) 0 0:Value)).ownBlock=some b→b≠x2.heap.size from fun b hb=>by have:=((unhide HVx2).lt b hb).2;omega)
     have HGy2:=hide ((unhide HGx2).trans (hby2.mono (unhide HGx2).size))
     clear hby2
     generalize hyy2:x2.alloc (.cells #[.int .i64 no,.string k,.int .i64 nn,.int .i64 1] 56)=y2 at *
     clear hyy2
     refine wpMixB_one 5 rfl (by kernel_rfl) (by rfl) (by decide) (fun x3 hx3=>?_)
     have HGx3:=hide ((unhide HGy2).trans (hx3.mono (unhide HGy2).size))
     have hsx3:wc.heap.size≤x3.heap.size:=(unhide HGx3).size
     have HVx3:=hide (GR.own_below (unhide HVy2) hx3)
     have HQx3:=hide (obj_step (unhide HQy2) hx3)
     clear hx3
     obtain⟨v3,y3,hry3,hoy3,hgy3,hwy3⟩:=run_append_row encRq_length (by omega) x3 wc.heap.size 28 28 56 i0 (.agg #[.int .i64 0,.string ByteArray.empty,.int .i64 0,.int .i64 0]) 40 Tryz.underlying28 hi hz0 hz1 hz2 rfl (.slice (some ⟨x1.heap.size,0,none⟩) 0 0) 0 (GR.flat encRq ([])) (unhide HVx3) (some ⟨gr,0,none⟩) (n.reqs.take pos) a_cr (GR.At.below (unhide HTL) (unhide HGx3)) (flatRq_one _) (by unfold maxLen;omega) (by omega) hsx3
     rw [hlt1] at hry3 hoy3
     refine Lib.wp_append_run x3 (.tmp 93) (.tmp 97) 28 28 rfl _ _ (by simp[Act.eval]) (by simp[Act.eval]) v3 y3 hry3 ?_
     refine⟨(Below.refl _ _).grown hgy3 hsx3 (fun b hb=>((unhide HVx3).lt b hb).1),?_⟩
     go_simp
     have HGy3:=hide ((unhide HGx3).grown hgy3 hsx3 (fun b hb=>((unhide HVx3).lt b hb).1))
     have HVy3:Hid (y3.ownsRow wc.heap.size 56 4 v3 (pos) (GR.flat encRq (n.reqs.take pos))):=hide (by simpa [GR.flat_nil] using hoy3)
     have HQy3:=hide (show y3.heap[x2.heap.size]?=some (.cells #[.int .i64 no,.string k,.int .i64 nn,.int .i64 1] 56 (0,0)) from by rw [hgy3.block _ (obj_lt (unhide HQx3)) (fun hm=>unhide HEy2 _ hm.symm rfl)];exact unhide HQx3)
     have HEy3:=hide (show∀b,(v3).ownBlock=some b→b≠x2.heap.size from fun b hb=>(hwy3 b hb).elim (fun h=>unhide HEy2 b h) (fun h=>by have:=obj_lt (unhide HQx3);omega))
     obtain⟨avR,cvR,hsly3,_⟩:=GR.own_at (enc:=encRq) (sz:=4) (l:=n.reqs.take pos) encRq_length (by rw [hlt1];exact unhide HVy3)
     rw [hlt1] at hsly3
     subst hsly3
     clear hry3 hoy3 hgy3 hwy3
     generalize x2.heap.size=rb at *
     refine wpMixB_one 8 rfl (by kernel_rfl) (by rfl) (by decide) (fun x4 hx4=>?_)
     have HGx4:=hide ((unhide HGy3).trans (hx4.mono (unhide HGy3).size))
     have hsx4:wc.heap.size≤x4.heap.size:=(unhide HGx4).size
     have HVx4:=hide (GR.own_below (unhide HVy3) hx4)
     have HQx4:=hide (obj_step (unhide HQy3) hx4)
     clear hx4
     obtain⟨v4,y4,hry4,hoy4,hgy4,hwy4⟩:=run_append_where x4 wc.heap.size 28 28 56 i0 (.agg #[.int .i64 0,.string ByteArray.empty,.int .i64 0,.int .i64 0]) 4 40 Tryz.underlying28 hi hz0 hz1 hz2 rfl (by decide) (.slice avR (pos) cvR) (pos) (GR.flat encRq (n.reqs.take pos)) (unhide HVx4) ⟨rb,0,none⟩ 1 1 (encRq ⟨no,k,nn,1⟩) rfl (World.news_of_block (unhide HQx4)) (encRq_one _) (by unfold maxLen;omega) (by omega) hsx4
     refine Lib.wp_append_run x4 (.tmp 98) (.tmp 100) 28 28 rfl _ _ (by simp[Act.eval]) (by simp[Act.eval]) v4 y4 hry4 ?_
     refine⟨(Below.refl _ _).grown hgy4 hsx4 (fun b hb=>((unhide HVx4).lt b hb).1),?_⟩
     go_simp
     have HGy4:=hide ((unhide HGx4).grown hgy4 hsx4 (fun b hb=>((unhide HVx4).lt b hb).1))
     have HVy4:Hid (y4.ownsRow wc.heap.size 56 4 v4 (pos+1) (GR.flat encRq (n.reqs.take pos++[(⟨no,k,nn,1⟩:Rq)]))):=hide (by rw [GR.flat_append,GR.flat_one];exact hoy4)
     have HQy4:=hide (show y4.heap[rb]?=some (.cells #[.int .i64 no,.string k,.int .i64 nn,.int .i64 1] 56 (0,0)) from by rw [hgy4.block _ (obj_lt (unhide HQx4)) (fun hm=>unhide HEy3 _ hm.symm rfl)];exact unhide HQx4)
     have HEy4:=hide (show∀b,(v4).ownBlock=some b→b≠rb from fun b hb=>(hwy4 b hb).elim (fun h=>unhide HEy3 b h) (fun h=>by have:=obj_lt (unhide HQx4);omega))
     obtain⟨avO,cvO,hsly4,_⟩:=GR.own_at (enc:=encRq) (sz:=4) (l:=n.reqs.take pos++[(⟨no,k,nn,1⟩:Rq)]) encRq_length (by rw [hL1];exact unhide HVy4)
     rw [hL1] at hsly4
     subst hsly4
     clear hry4 hoy4 hgy4 hwy4
     refine wpMixB_one 13 rfl (by kernel_rfl) (by rfl) (by decide) (fun x5 hx5=>?_)
     have HGx5:=hide ((unhide HGy4).trans (hx5.mono (unhide HGy4).size))
     have hsx5:wc.heap.size≤x5.heap.size:=(unhide HGx5).size
     have HVx5:=hide (GR.own_below (unhide HVy4) hx5)
     have HQx5:=hide (obj_step (unhide HQy4) hx5)
     clear hx5
     obtain⟨v5,y5,hry5,hoy5,hgy5,hwy5⟩:=run_append_row encRq_length (by omega) x5 wc.heap.size 28 28 56 i0 (.agg #[.int .i64 0,.string ByteArray.empty,.int .i64 0,.int .i64 0]) 40 Tryz.underlying28 hi hz0 hz1 hz2 rfl (.slice avO (pos+1) cvO) (pos+1) (GR.flat encRq (n.reqs.take pos++[(⟨no,k,nn,1⟩:Rq)])) (unhide HVx5) AD (n.reqs.drop pos) (a_cr - pos) (GR.At.below (unhide HDR) (unhide HGx5)) (flatRq_one _) (by unfold maxLen;omega) (by omega) hsx5
     rw [hld1] at hry5 hoy5
     refine Lib.wp_append_run x5 (.tmp 101) (.tmp 105) 28 28 rfl _ _ (by simp[Act.eval]) (by simp[Act.eval]) v5 y5 hry5 ?_
     refine⟨(Below.refl _ _).grown hgy5 hsx5 (fun b hb=>((unhide HVx5).lt b hb).1),?_⟩
     go_simp
     have HGy5:=hide ((unhide HGx5).grown hgy5 hsx5 (fun b hb=>((unhide HVx5).lt b hb).1))
     have HVy5:Hid (y5.ownsRow wc.heap.size 56 4 v5 (pos+1+(n.reqs.length - pos)) (GR.flat encRq (n.reqs.take pos++[(⟨no,k,nn,1⟩:Rq)]++n.reqs.drop pos))):=hide (by rw [GR.flat_append];exact hoy5)
     have HQy5:=hide (show y5.heap[rb]?=some (.cells #[.int .i64 no,.string k,.int .i64 nn,.int .i64 1] 56 (0,0)) from by rw [hgy5.block _ (obj_lt (unhide HQx5)) (fun hm=>unhide HEy4 _ hm.symm rfl)];exact unhide HQx5)
     have HEy5:=hide (show∀b,(v5).ownBlock=some b→b≠rb from fun b hb=>(hwy5 b hb).elim (fun h=>unhide HEy4 b h) (fun h=>by have:=obj_lt (unhide HQx5);omega))
     obtain⟨avT,cvT,hsly5,_⟩:=GR.own_at (enc:=encRq) (sz:=4) (l:=n.reqs.take pos++[(⟨no,k,nn,1⟩:Rq)]++n.reqs.drop pos) encRq_length (by rw [hL2];exact unhide HVy5)
     rw [hL2] at hsly5
     subst hsly5
     clear hry5 hoy5 hgy5 hwy5
     have hwb2:wc.heap.size≤y5.heap.size:=(unhide HGy5).size
     refine wpMixB_take 14 20 hwb2 rfl (by kernel_rfl) (by kernel_rfl) (by kernel_rfl) (by kernel_rfl) (by kernel_rfl) (fun _ _ _ _ h=>h) (fun K hK=>?_)
     go_simp
     first
      |(refine hK _ ?_;clear hK K)
      |(apply Exists.intro
        refine⟨fun _=>?_,hK _ ?_⟩
        (first|rfl|(trace_state;fail))
        clear hK K)
     refine wpMixB_leave (by kernel_rfl) (fun z hz=>?_)
     have HGz:=hide ((unhide HGy5).trans (hz.mono (unhide HGy5).size))
     have HVz:=hide (GR.own_below (unhide HVy5) hz)
     have hsz:wc.heap.size≤z.heap.size:=(unhide HGz).size
     clear hz
     have HNz:Hid (z.heap[w.heap.size]?=some (.cells #[.int .i64 n.id,.int .i64 n.par,.slice a_k n.kids.length a_ck,.int .i64 n.next,.slice (some ⟨gp,0,none⟩) n.pu.length a_cp,.slice a_o n.out.length a_co,.slice a_s n.seen.length a_cs,.int .i64 n.old,.slice (some ⟨gr,0,none⟩) n.reqs.length a_cr] 30 (0,0))):=by unfold Hid;rw [(unhide HGz).block _ hnl];exact unhide HN_5
     have HRz:Hid (z.heap[w.heap.size+2]?=some (.cells zc9 30 (0,0))):=by unfold Hid;rw [(unhide HGz).block _ (obj_lt (unhide HR_5))];exact unhide HR_5
     have HQz:Hid (z.heap[W1.heap.size]?=some (.cells #[.int .i64 no,.string k,.int .i64 nn,.int .i64 1] 56 (0,0))):=by unfold Hid;rw [(unhide HGz).block _ hql5];exact unhide HQ_5
     have kc:=(nine (unhide HNz)).2.2.2.2.2.2.2.2
     have kf:=obj_free (unhide HNz) 8
     refine wpAny_one 15 rfl (by kernel_rfl) (by rfl) ?_
     go_simp
     refine wpAny_done (by kernel_rfl) ?_
     go_simp
     go_wp2_with fail
     go_meet
     case rel=>
      refine⟨rfl,avT,cvT,?_,?_,?_,?_,?_,?_,?_⟩
      ·rcases(unhide HVz).2 with⟨_,hn⟩|⟨g,cap,cur,hv,_⟩
       ·omega
       ·simp only[Value.slice.injEq] at hv
        exact⟨g,hv.1⟩
      ·rcases(unhide HVz).2 with⟨_,hn⟩|⟨g,cap,cur,hv,_,_,hnc,_⟩
       ·omega
       ·simp only[Value.slice.injEq] at hv
        omega
      ·have h:=blk_setO (unhide HNz) 8 (.slice avT (pos+1+(n.reqs.length - pos)) cvT)
       rw [show pos+1+(n.reqs.length - pos)=n.reqs.length+1 by omega] at h ⊢
       exact h
      ·exact obj_set _ (by omega) (unhide HRz)
      ·exact obj_set _ (by omega) (unhide HQz)
      ·have h:=LO.own (en:=encRq) (cp:=cvT) (l:=n.reqs.take pos++[(⟨no,k,nn,1⟩:Rq)]++n.reqs.drop pos) (by rw [hL2];exact unhide HVz)
       rw [unhide HIQ]
       rw [List.append_assoc] at h
       exact(h.keeps (KeepsL.set _) (fun x hx=>by simp at hx;omega)).lower (by omega)
      ·exact((unhide HB5).trans ((unhide HGz).mono (unhide HB5).size)).setCell (p:=⟨w.heap.size,8,none⟩) (Nat.le_refl _) _
   ·go_simp
    have HGx1:=hide ((unhide HG0).trans (hx1.mono (unhide HG0).size))
    have hsx1:wc.heap.size≤x1.heap.size:=(unhide HGx1).size
    clear hx1
    refine⟨(below_one x1 _).mono hsx1,?_⟩
    have hby1:=below_one x1 (.cells #[.int .i64 no,.string k,.int .i64 nn,.int .i64 1] 56)
    have HQy1:=hide (heap_alloc_new x1 (.cells #[.int .i64 no,.string k,.int .i64 nn,.int .i64 1] 56))
    have HGy1:=hide ((unhide HGx1).trans (hby1.mono (unhide HGx1).size))
    clear hby1
    generalize hyy1:x1.alloc (.cells #[.int .i64 no,.string k,.int .i64 nn,.int .i64 1] 56)=y1 at *
    clear hyy1
    refine wpMixB_one 0 rfl (by kernel_rfl) (by rfl) (by decide) (fun x2 hx2=>?_)
    go_simp
    have HGx2:=hide ((unhide HGy1).trans (hx2.mono (unhide HGy1).size))
    have hsx2:wc.heap.size≤x2.heap.size:=(unhide HGx2).size
    have HQx2:=hide (obj_step (unhide HQy1) hx2)
    clear hx2
    refine⟨(below_one x2 _).mono hsx2,?_⟩
    have hby2:=below_one x2 (.cells #[] 56)
    have HVy2:=hide (show(x2.alloc (.cells #[] 56)).ownsRow wc.heap.size 56 4 (.slice (some ⟨x2.heap.size,0,none⟩) 0 0) 0 (GR.flat encRq []) from World.ownsRow_lit (base:=wc.heap.size) (e:=56) (size:=4) x2 #[] 0 hsx2 (by unfold maxLen;omega) (by simp))
    have HQy2:=hide (obj_step (unhide HQx2) hby2)
    have hrby2:=obj_lt (unhide HQx2)
    have HEy2:=hide (show∀b,(Value.slice (some ⟨x2.heap.size,0,none⟩) 0 0).ownBlock=some b→b≠x1.heap.size from fun b hb=>by simp[Value.ownBlock] at hb;omega)
    have HGy2:=hide ((unhide HGx2).trans (hby2.mono (unhide HGx2).size))
    clear hby2
    generalize hyy2:x2.alloc (.cells #[] 56)=y2 at *
    clear hyy2
    refine wpMixB_one 5 rfl (by kernel_rfl) (by rfl) (by decide) (fun x3 hx3=>?_)
    have HGx3:=hide ((unhide HGy2).trans (hx3.mono (unhide HGy2).size))
    have hsx3:wc.heap.size≤x3.heap.size:=(unhide HGx3).size
    have HVx3:=hide (GR.own_below (unhide HVy2) hx3)
    have HQx3:=hide (obj_step (unhide HQy2) hx3)
    clear hx3
    obtain⟨v3,y3,hry3,hoy3,hgy3,hwy3⟩:=run_append_row encRq_length (by omega) x3 wc.heap.size 28 28 56 i0 (.agg #[.int .i64 0,.string ByteArray.empty,.int .i64 0,.int .i64 0]) 40 Tryz.underlying28 hi hz0 hz1 hz2 rfl (.slice (some ⟨x2.heap.size,0,none⟩) 0 0) 0 (GR.flat encRq ([])) (unhide HVx3) (some ⟨gr,0,none⟩) (n.reqs.take pos) a_cr (GR.At.below (unhide HTL) (unhide HGx3)) (flatRq_one _) (by unfold maxLen;omega) (by omega) hsx3
    rw [hlt1] at hry3 hoy3
    refine Lib.wp_append_run x3 (.tmp 93) (.tmp 97) 28 28 rfl _ _ (by simp[Act.eval]) (by simp[Act.eval]) v3 y3 hry3 ?_
    refine⟨(Below.refl _ _).grown hgy3 hsx3 (fun b hb=>((unhide HVx3).lt b hb).1),?_⟩
    go_simp
    have HGy3:=hide ((unhide HGx3).grown hgy3 hsx3 (fun b hb=>((unhide HVx3).lt b hb).1))
    have HVy3:Hid (y3.ownsRow wc.heap.size 56 4 v3 (pos) (GR.flat encRq (n.reqs.take pos))):=hide (by simpa [GR.flat_nil] using hoy3)
    have HQy3:=hide (show y3.heap[x1.heap.size]?=some (.cells #[.int .i64 no,.string k,.int .i64 nn,.int .i64 1] 56 (0,0)) from by rw [hgy3.block _ (obj_lt (unhide HQx3)) (fun hm=>unhide HEy2 _ hm.symm rfl)];exact unhide HQx3)
    have HEy3:=hide (show∀b,(v3).ownBlock=some b→b≠x1.heap.size from fun b hb=>(hwy3 b hb).elim (fun h=>unhide HEy2 b h) (fun h=>by have:=obj_lt (unhide HQx3);omega))
    obtain⟨avR,cvR,hsly3,_⟩:=GR.own_at (enc:=encRq) (sz:=4) (l:=n.reqs.take pos) encRq_length (by rw [hlt1];exact unhide HVy3)
    rw [hlt1] at hsly3
    subst hsly3
    clear hry3 hoy3 hgy3 hwy3
    generalize x1.heap.size=rb at *
    refine wpMixB_one 8 rfl (by kernel_rfl) (by rfl) (by decide) (fun x4 hx4=>?_)
    have HGx4:=hide ((unhide HGy3).trans (hx4.mono (unhide HGy3).size))
    have hsx4:wc.heap.size≤x4.heap.size:=(unhide HGx4).size
    have HVx4:=hide (GR.own_below (unhide HVy3) hx4)
    have HQx4:=hide (obj_step (unhide HQy3) hx4)
    clear hx4
    obtain⟨v4,y4,hry4,hoy4,hgy4,hwy4⟩:=run_append_where x4 wc.heap.size 28 28 56 i0 (.agg #[.int .i64 0,.string ByteArray.empty,.int .i64 0,.int .i64 0]) 4 40 Tryz.underlying28 hi hz0 hz1 hz2 rfl (by decide) (.slice avR (pos) cvR) (pos) (GR.flat encRq (n.reqs.take pos)) (unhide HVx4) ⟨rb,0,none⟩ 1 1 (encRq ⟨no,k,nn,1⟩) rfl (World.news_of_block (unhide HQx4)) (encRq_one _) (by unfold maxLen;omega) (by omega) hsx4
    refine Lib.wp_append_run x4 (.tmp 98) (.tmp 100) 28 28 rfl _ _ (by simp[Act.eval]) (by simp[Act.eval]) v4 y4 hry4 ?_
    refine⟨(Below.refl _ _).grown hgy4 hsx4 (fun b hb=>((unhide HVx4).lt b hb).1),?_⟩
    go_simp
    have HGy4:=hide ((unhide HGx4).grown hgy4 hsx4 (fun b hb=>((unhide HVx4).lt b hb).1))
    have HVy4:Hid (y4.ownsRow wc.heap.size 56 4 v4 (pos+1) (GR.flat encRq (n.reqs.take pos++[(⟨no,k,nn,1⟩:Rq)]))):=hide (by rw [GR.flat_append,GR.flat_one];exact hoy4)
    have HQy4:=hide (show y4.heap[rb]?=some (.cells #[.int .i64 no,.string k,.int .i64 nn,.int .i64 1] 56 (0,0)) from by rw [hgy4.block _ (obj_lt (unhide HQx4)) (fun hm=>unhide HEy3 _ hm.symm rfl)];exact unhide HQx4)
    have HEy4:=hide (show∀b,(v4).ownBlock=some b→b≠rb from fun b hb=>(hwy4 b hb).elim (fun h=>unhide HEy3 b h) (fun h=>by have:=obj_lt (unhide HQx4);omega))
    obtain⟨avO,cvO,hsly4,_⟩:=GR.own_at (enc:=encRq) (sz:=4) (l:=n.reqs.take pos++[(⟨no,k,nn,1⟩:Rq)]) encRq_length (by rw [hL1];exact unhide HVy4)
    rw [hL1] at hsly4
    subst hsly4
    clear hry4 hoy4 hgy4 hwy4
    refine wpMixB_one 13 rfl (by kernel_rfl) (by rfl) (by decide) (fun x5 hx5=>?_)
    have HGx5:=hide ((unhide HGy4).trans (hx5.mono (unhide HGy4).size))
    have hsx5:wc.heap.size≤x5.heap.size:=(unhide HGx5).size
    have HVx5:=hide (GR.own_below (unhide HVy4) hx5)
    have HQx5:=hide (obj_step (unhide HQy4) hx5)
    clear hx5
    obtain⟨v5,y5,hry5,hoy5,hgy5,hwy5⟩:=run_append_row encRq_length (by omega) x5 wc.heap.size 28 28 56 i0 (.agg #[.int .i64 0,.string ByteArray.empty,.int .i64 0,.int .i64 0]) 40 Tryz.underlying28 hi hz0 hz1 hz2 rfl (.slice avO (pos+1) cvO) (pos+1) (GR.flat encRq (n.reqs.take pos++[(⟨no,k,nn,1⟩:Rq)])) (unhide HVx5) AD (n.reqs.drop pos) (a_cr - pos) (GR.At.below (unhide HDR) (unhide HGx5)) (flatRq_one _) (by unfold maxLen;omega) (by omega) hsx5
    rw [hld1] at hry5 hoy5
    refine Lib.wp_append_run x5 (.tmp 101) (.tmp 105) 28 28 rfl _ _ (by simp[Act.eval]) (by simp[Act.eval]) v5 y5 hry5 ?_
    refine⟨(Below.refl _ _).grown hgy5 hsx5 (fun b hb=>((unhide HVx5).lt b hb).1),?_⟩
    go_simp
    have HGy5:=hide ((unhide HGx5).grown hgy5 hsx5 (fun b hb=>((unhide HVx5).lt b hb).1))
    have HVy5:Hid (y5.ownsRow wc.heap.size 56 4 v5 (pos+1+(n.reqs.length - pos)) (GR.flat encRq (n.reqs.take pos++[(⟨no,k,nn,1⟩:Rq)]++n.reqs.drop pos))):=hide (by rw [GR.flat_append];exact hoy5)
    have HQy5:=hide (show y5.heap[rb]?=some (.cells #[.int .i64 no,.string k,.int .i64 nn,.int .i64 1] 56 (0,0)) from by rw [hgy5.block _ (obj_lt (unhide HQx5)) (fun hm=>unhide HEy4 _ hm.symm rfl)];exact unhide HQx5)
    have HEy5:=hide (show∀b,(v5).ownBlock=some b→b≠rb from fun b hb=>(hwy5 b hb).elim (fun h=>unhide HEy4 b h) (fun h=>by have:=obj_lt (unhide HQx5);omega))
    obtain⟨avT,cvT,hsly5,_⟩:=GR.own_at (enc:=encRq) (sz:=4) (l:=n.reqs.take pos++[(⟨no,k,nn,1⟩:Rq)]++n.reqs.drop pos) encRq_length (by rw [hL2];exact unhide HVy5)
    rw [hL2] at hsly5
    subst hsly5
    clear hry5 hoy5 hgy5 hwy5
    have hwb2:wc.heap.size≤y5.heap.size:=(unhide HGy5).size
    refine wpMixB_take 14 20 hwb2 rfl (by kernel_rfl) (by kernel_rfl) (by kernel_rfl) (by kernel_rfl) (by kernel_rfl) (fun _ _ _ _ h=>h) (fun K hK=>?_)
    go_simp
    first
     |(refine hK _ ?_;clear hK K)
     |(apply Exists.intro
       refine⟨fun _=>?_,hK _ ?_⟩
       (first|rfl|(trace_state;fail))
       clear hK K)
    refine wpMixB_leave (by kernel_rfl) (fun z hz=>?_)
    have HGz:=hide ((unhide HGy5).trans (hz.mono (unhide HGy5).size))
    have HVz:=hide (GR.own_below (unhide HVy5) hz)
    have hsz:wc.heap.size≤z.heap.size:=(unhide HGz).size
    clear hz
    have HNz:Hid (z.heap[w.heap.size]?=some (.cells #[.int .i64 n.id,.int .i64 n.par,.slice a_k n.kids.length a_ck,.int .i64 n.next,.slice (some ⟨gp,0,none⟩) n.pu.length a_cp,.slice a_o n.out.length a_co,.slice a_s n.seen.length a_cs,.int .i64 n.old,.slice (some ⟨gr,0,none⟩) n.reqs.length a_cr] 30 (0,0))):=by unfold Hid;rw [(unhide HGz).block _ hnl];exact unhide HN_5
    have HRz:Hid (z.heap[w.heap.size+2]?=some (.cells zc9 30 (0,0))):=by unfold Hid;rw [(unhide HGz).block _ (obj_lt (unhide HR_5))];exact unhide HR_5
    have HQz:Hid (z.heap[W1.heap.size]?=some (.cells #[.int .i64 no,.string k,.int .i64 nn,.int .i64 1] 56 (0,0))):=by unfold Hid;rw [(unhide HGz).block _ hql5];exact unhide HQ_5
    have kc:=(nine (unhide HNz)).2.2.2.2.2.2.2.2
    have kf:=obj_free (unhide HNz) 8
    refine wpAny_one 15 rfl (by kernel_rfl) (by rfl) ?_
    go_simp
    refine wpAny_done (by kernel_rfl) ?_
    go_simp
    go_wp2_with fail
    go_meet
    case rel=>
     refine⟨rfl,avT,cvT,?_,?_,?_,?_,?_,?_,?_⟩
     ·rcases(unhide HVz).2 with⟨_,hn⟩|⟨g,cap,cur,hv,_⟩
      ·omega
      ·simp only[Value.slice.injEq] at hv
       exact⟨g,hv.1⟩
     ·rcases(unhide HVz).2 with⟨_,hn⟩|⟨g,cap,cur,hv,_,_,hnc,_⟩
      ·omega
      ·simp only[Value.slice.injEq] at hv
       omega
     ·have h:=blk_setO (unhide HNz) 8 (.slice avT (pos+1+(n.reqs.length - pos)) cvT)
      rw [show pos+1+(n.reqs.length - pos)=n.reqs.length+1 by omega] at h ⊢
      exact h
     ·exact obj_set _ (by omega) (unhide HRz)
     ·exact obj_set _ (by omega) (unhide HQz)
     ·have h:=LO.own (en:=encRq) (cp:=cvT) (l:=n.reqs.take pos++[(⟨no,k,nn,1⟩:Rq)]++n.reqs.drop pos) (by rw [hL2];exact unhide HVz)
      rw [unhide HIQ]
      rw [List.append_assoc] at h
      exact(h.keeps (KeepsL.set _) (fun x hx=>by simp at hx;omega)).lower (by omega)
     ·exact((unhide HB5).trans ((unhide HGz).mono (unhide HB5).size)).setCell (p:=⟨w.heap.size,8,none⟩) (Nat.le_refl _) _
  case rest=>
   clear c0 c1 c2 c3 c4 c5 c6 c7 c8 q0 q1 q2 q3 hnl hql5 HN_5 HR_5 HQ_5 HB5 HA5
   obtain⟨rfl,va,vc,⟨gv,rfl⟩,hvc,hN6,hR6,hQ6,hL6,hB6⟩:=hcut
   have HLQ:=hide (show IQ.length=n.reqs.length+1 by rw [unhide HIQ];simp;omega)
   have HN_6:=hide hN6
   have HR_6:=hide hR6
   have HQ_6:=hide hQ6
   have HL6:=hide hL6
   have HB6:=hide hB6
   clear hN6 hR6 hQ6 hL6 hB6
   rename_i wo _ _ _
   by_cases h30:30 < n.reqs.length+1
   ·have HK:=hide (show keepN n ⟨no,k,nn,1⟩=setReqs (setOld n (IQ.headD default).no) IQ.tail by unfold keepN;rw [show(n).reqs=n.reqs from rfl,unhide HIN,unhide HLQ,if_pos h30])
    obtain⟨IH,IT,hIQ⟩:∃IH IT,IQ=IH::IT:=by
     cases hq:IQ with
     |nil=>have:=unhide HLQ;rw [hq] at this;simp at this
     |cons a b=>exact⟨a,b,rfl⟩
    subst hIQ
    have hIT:IT.length=n.reqs.length:=by have:=unhide HLQ;simp at this;omega
    have y0:wc.cell? ⟨gv,0,none⟩=some (.int .i64 IH.no):=by
     obtain⟨g',off',e0,_,h0,_⟩:=ReqAt.four ((unhide HL6).lies encRq_length).1 0 (by simp)
     cases e0
     simpa using h0
    have HTA:=hide (show ReqAt wc (some ⟨gv,1*4,none⟩) IT from GR.At.drop ((unhide HL6).lies encRq_length).1 1)
    have hvlo:=((unhide HL6).lies encRq_length).2 gv 0 rfl
    obtain⟨c0,c1,c2,c3,c4,c5,c6,c7,c8⟩:=nine (unhide HN_6)
    have cf:=obj_free (unhide HN_6) 7
    have hnl:=obj_lt (unhide HN_6)
    have hd30:decide ((30:Int) < ((n.reqs.length+1:Nat):Int))=true:=decide_eq_true (by omega)
    go_upto_region 19 with fail
    refine wp_at (fun W7 hW7=>?_)
    have hvc1:¬vc=1:=by omega
    have hvc2:1≤vc:=by omega
    have HN_7:Hid (W7.heap[w.heap.size]?=some (.cells #[.int .i64 n.id,.int .i64 n.par,.slice a_k n.kids.length a_ck,.int .i64 n.next,.slice (some ⟨gp,0,none⟩) n.pu.length a_cp,.slice a_o n.out.length a_co,.slice a_s n.seen.length a_cs,.int .i64 IH.no,.slice (some ⟨gv,0,none⟩) (n.reqs.length+1) vc] 30 (0,0))):=by rw [hW7];exact blk_setO (unhide HN_6) 7 _
    have HR_7:Hid (W7.heap[w.heap.size+2]?=some (.cells zc9 30 (0,0))):=by rw [hW7];exact obj_set _ (by omega) (unhide HR_6)
    have HQ_7:Hid (W7.heap[W1.heap.size]?=some (.cells #[.int .i64 no,.string k,.int .i64 nn,.int .i64 1] 56 (0,0))):=by rw [hW7];exact obj_set _ (by omega) (unhide HQ_6)
    have HB7:Hid (Below w.heap.size w W7):=by rw [hW7];exact(unhide HB6).setCell (p:=⟨w.heap.size,7,none⟩) (Nat.le_refl _) _
    have HTA7:Hid (ReqAt W7 (some ⟨gv,1*4,none⟩) IT):=by
     rw [hW7]
     exact((show Lies encRq 4 (w.heap.size+3) wc (some ⟨gv,1*4,none⟩) IT from⟨unhide HTA,fun g off e=>by cases e;exact hvlo⟩).keeps (KeepsL.set _) (fun x hx=>by simp at hx;omega)).1
    skip
    clear hW7 HTA y0 cf c0 c1 c2 c3 c4 c5 c6 c7 c8 hnl HN_6 HR_6 HQ_6 HB6 HL6
    obtain⟨c0,c1,c2,c3,c4,c5,c6,c7,c8⟩:=nine (unhide HN_7)
    have cf:=obj_free (unhide HN_7) 8
    have hnl:=obj_lt (unhide HN_7)
    obtain⟨i0,hi,hz0,hz1,hz2⟩:=info_parts infoReq
    obtain⟨a8,c8',W8,hrun,hown8,hb8,⟨g8,rfl⟩,hc8⟩:=run_copy_row (P:=Tryz.prog) encRq_length (by omega) W7 28 56 i0 (.agg #[.int .i64 0,.string ByteArray.empty,.int .i64 0,.int .i64 0]) 40 Tryz.underlying28 hi hz0 hz1 hz2 rfl (some ⟨gv,1*4,none⟩) IT (vc - 1) (unhide HTA7) (flatRq_one _) (by unfold maxLen;omega) (by omega)
    rw [hIT,Nat.one_mul] at hrun
    have HRUN:=hide hrun
    have HN_8:=hide (obj_step (unhide HN_7) hb8)
    have HR_8:=hide (obj_step (unhide HR_7) hb8)
    have HQ_8:=hide (obj_step (unhide HQ_7) hb8)
    have HB8:=hide ((unhide HB7).trans (hb8.mono (unhide HB7).size))
    have HL8:=hide (LO.own (en:=encRq) hown8)
    have hz7:w.heap.size+3≤W7.heap.size:=by have:=obj_lt (unhide HQ_7);omega
    skip
    have k8:=(nine (unhide HN_8)).2.2.2.2.2.2.2.2
    have kf8:=obj_free (unhide HN_8) 8
    clear hrun hb8 hown8
    go_upto_region 20 with(at_builtin;refine wpList_append_eq rfl (.tmp 118) (.tmp 121) 28 rfl _ _ rfl rfl _ _ (unhide HRUN _) ?_)
    refine wp_at (fun W9 hW9=>?_)
    have HN_9:Hid (W9.heap[w.heap.size]?=some (.cells #[.int .i64 n.id,.int .i64 n.par,.slice a_k n.kids.length a_ck,.int .i64 n.next,.slice (some ⟨gp,0,none⟩) n.pu.length a_cp,.slice a_o n.out.length a_co,.slice a_s n.seen.length a_cs,.int .i64 IH.no,.slice (some ⟨g8,0,none⟩) n.reqs.length c8'] 30 (0,0))):=by rw [hW9];exact blk_setO (unhide HN_8) 8 _
    have HR_9:Hid (W9.heap[w.heap.size+2]?=some (.cells zc9 30 (0,0))):=by rw [hW9];exact obj_set _ (by omega) (unhide HR_8)
    have HQ_9:Hid (W9.heap[W1.heap.size]?=some (.cells #[.int .i64 no,.string k,.int .i64 nn,.int .i64 1] 56 (0,0))):=by rw [hW9];exact obj_set _ (by omega) (unhide HQ_8)
    have HB9:Hid (Below w.heap.size w W9):=by rw [hW9];exact(unhide HB8).setCell (p:=⟨w.heap.size,8,none⟩) (Nat.le_refl _) _
    have HL9:Hid (LO 56 encRq 4 (w.heap.size+3) W9 (some ⟨g8,0,none⟩) c8' IT):=by rw [hW9];exact(((unhide HL8).lower hz7).keeps (KeepsL.set _) (fun x hx=>by simp at hx;omega))
    skip
    clear hW9 k8 kf8 HN_8 HR_8 HQ_8 HB8 HL8 HN_7 HR_7 HQ_7 HB7 HTA7 HRUN c0 c1 c2 c3 c4 c5 c6 c7 c8 cf hnl
    have hITn:IT.length=n.reqs.length:=hIT
    clear hIT
    obtain⟨c0,c1,c2,c3,c4,c5,c6,c7,c8⟩:=nine (unhide HN_9)
    have y0:=cell_regrown c0
    have y1:=cell_regrown c1
    have y2:=cell_regrown c2
    have y3:=cell_regrown c3
    have y4:=cell_regrown c4
    have y5:=cell_regrown c5
    have y6:=cell_regrown c6
    have y7:=cell_regrown c7
    have y8:=cell_regrown c8
    have hnl:=obj_lt (unhide HN_9)
    have hnr:=obj_lt (unhide HR_9)
    have hnq:=obj_lt (unhide HQ_9)
    clear c0 c1 c2 c3 c4 c5 c6 c7 c8
    go_cut [5] from 11 (fun cd wx=>cd= .int .i64 1∧wx.heap[w.heap.size+2]?=some (.cells #[.int .i64 n.id,.int .i64 n.par,.slice a_k n.kids.length a_ck,.int .i64 n.next,.slice (some ⟨gp,0,none⟩) n.pu.length a_cp,.slice a_o n.out.length a_co,.slice a_s n.seen.length a_cs,.int .i64 IH.no,.slice (some ⟨g8,0,none⟩) n.reqs.length c8'] 30 (0,0))∧KeepsL [w.heap.size+2] W9 wx)
    case first=>
     refine wp_region_mixF 3 (by kernel_rfl) ?_
     show wpMixF _ _ _ _ _ 5 (Array.replicate 5 false) _ _
     refine wpMixF_take 0 20 rfl (by kernel_rfl) (by kernel_rfl) (by kernel_rfl) (by kernel_rfl) (by kernel_rfl) (fun _ _ _ _ h=>h) (fun K hK=>?_)
     go_simp
     first
      |(refine hK _ ?_;clear hK K)
      |(apply Exists.intro
        refine⟨fun _=>?_,hK _ ?_⟩
        (fail)
        clear hK K)
     clear y0 y1 y2 y3 y4 y5 y6 y7 y8
     refine wpMixF_two 1 rfl rfl (by kernel_rfl) (by rfl) (by rfl) (by decide) (fun x hx=>?_) (fun x hx=>?_)
     ·go_simp
      refine⟨Below.refl _ _,?_⟩
      refine wpMixF_two 2 rfl rfl (by kernel_rfl) (by rfl) (by rfl) (by decide) (fun x2 hx2=>?_) (fun x2 hx2=>?_)
      ·have q3x:=(fourC (obj_step (unhide HQ_9) (Ge.trans hx hx2))).2.2.2
       go_simp
       refine⟨Below.refl _ _,?_⟩
       refine wpMixF_leave (by kernel_rfl) (fun x3 hx3=>?_)
       have hg3:=Ge.trans (Ge.trans hx hx2) hx3
       clear q3x
       have HRx:=hide (obj_step (unhide HR_9) hg3)
       obtain⟨d0,d1,d2,d3,d4,d5,d6,d7,d8⟩:=nine (unhide HRx)
       have f0:=obj_free (unhide HRx) 0
       have f1:=obj_free (unhide HRx) 1
       have f2:=obj_free (unhide HRx) 2
       have f3:=obj_free (unhide HRx) 3
       have f4:=obj_free (unhide HRx) 4
       have f5:=obj_free (unhide HRx) 5
       have f6:=obj_free (unhide HRx) 6
       have f7:=obj_free (unhide HRx) 7
       have f8:=obj_free (unhide HRx) 8
       have hrl:=obj_lt (unhide HRx)
       refine wpAny_one 3 rfl (by kernel_rfl) (by rfl) ?_
       go_simp
       refine wpAny_one 4 rfl (by kernel_rfl) (by rfl) ?_
       go_simp
       refine wpAny_done (by kernel_rfl) ?_
       go_simp
       go_wp2_with fail
       go_meet
       case rel=>exact⟨rfl,GR.setW_blk [.int .i64 n.id,.int .i64 n.par,.slice a_k n.kids.length a_ck,.int .i64 n.next,.slice (some ⟨gp,0,none⟩) n.pu.length a_cp,.slice a_o n.out.length a_co,.slice a_s n.seen.length a_cs,.int .i64 IH.no,.slice (some ⟨g8,0,none⟩) n.reqs.length c8'] (o:=0) (xs:=[.int .i64 0,.int .i64 0,.slice none 0 0,.int .i64 0,.slice none 0 0,.slice none 0 0,.slice none 0 0,.int .i64 0,.slice none 0 0]) (unhide HRx),(KeepsL.of_below hg3).trans (setW_keeps [.int .i64 n.id,.int .i64 n.par,.slice a_k n.kids.length a_ck,.int .i64 n.next,.slice (some ⟨gp,0,none⟩) n.pu.length a_cp,.slice a_o n.out.length a_co,.slice a_s n.seen.length a_cs,.int .i64 IH.no,.slice (some ⟨g8,0,none⟩) n.reqs.length c8'] x3 0)⟩
      ·have hg3:=Ge.trans hx hx2
       have q3x:=(fourC (obj_step (unhide HQ_9) hg3)).2.2.2
       have HRx:=hide (obj_step (unhide HR_9) hg3)
       obtain⟨d0,d1,d2,d3,d4,d5,d6,d7,d8⟩:=nine (unhide HRx)
       have f0:=obj_free (unhide HRx) 0
       have f1:=obj_free (unhide HRx) 1
       have f2:=obj_free (unhide HRx) 2
       have f3:=obj_free (unhide HRx) 3
       have f4:=obj_free (unhide HRx) 4
       have f5:=obj_free (unhide HRx) 5
       have f6:=obj_free (unhide HRx) 6
       have f7:=obj_free (unhide HRx) 7
       have f8:=obj_free (unhide HRx) 8
       have hrl:=obj_lt (unhide HRx)
       have q3s:=far9 (g:=w.heap.size+2) (i:=3) (b0:= .int .i64 n.id) (b1:= .int .i64 n.par) (b2:= .slice a_k n.kids.length a_ck) (b3:= .int .i64 n.next) (b4:= .slice (some ⟨gp,0,none⟩) n.pu.length a_cp) (b5:= .slice a_o n.out.length a_co) (b6:= .slice a_s n.seen.length a_cs) (b7:= .int .i64 IH.no) (b8:= .slice (some ⟨g8,0,none⟩) n.reqs.length c8') (show w.heap.size+2≠W1.heap.size by omega) q3x
       go_simp
       refine wpAny_one 2 rfl (by kernel_rfl) (by rfl) ?_
       go_simp
       refine wpAny_one 4 rfl (by kernel_rfl) (by rfl) ?_
       go_simp
       refine wpAny_done (by kernel_rfl) ?_
       go_simp
       go_wp2_with fail
       go_meet
       case rel=>exact⟨rfl,GR.setW_blk [.int .i64 n.id,.int .i64 n.par,.slice a_k n.kids.length a_ck,.int .i64 n.next,.slice (some ⟨gp,0,none⟩) n.pu.length a_cp,.slice a_o n.out.length a_co,.slice a_s n.seen.length a_cs,.int .i64 IH.no,.slice (some ⟨g8,0,none⟩) n.reqs.length c8'] (o:=0) (xs:=[.int .i64 0,.int .i64 0,.slice none 0 0,.int .i64 0,.slice none 0 0,.slice none 0 0,.slice none 0 0,.int .i64 0,.slice none 0 0]) (unhide HRx),(KeepsL.of_below hg3).trans (setW_keeps [.int .i64 n.id,.int .i64 n.par,.slice a_k n.kids.length a_ck,.int .i64 n.next,.slice (some ⟨gp,0,none⟩) n.pu.length a_cp,.slice a_o n.out.length a_co,.slice a_s n.seen.length a_cs,.int .i64 IH.no,.slice (some ⟨g8,0,none⟩) n.reqs.length c8'] x2 0)⟩
     ·have q3x:=(fourC (obj_step (unhide HQ_9) hx)).2.2.2
      have HRx:=hide (obj_step (unhide HR_9) hx)
      obtain⟨d0,d1,d2,d3,d4,d5,d6,d7,d8⟩:=nine (unhide HRx)
      have f0:=obj_free (unhide HRx) 0
      have f1:=obj_free (unhide HRx) 1
      have f2:=obj_free (unhide HRx) 2
      have f3:=obj_free (unhide HRx) 3
      have f4:=obj_free (unhide HRx) 4
      have f5:=obj_free (unhide HRx) 5
      have f6:=obj_free (unhide HRx) 6
      have f7:=obj_free (unhide HRx) 7
      have f8:=obj_free (unhide HRx) 8
      have hrl:=obj_lt (unhide HRx)
      have q3s:=far9 (g:=w.heap.size+2) (i:=3) (b0:= .int .i64 n.id) (b1:= .int .i64 n.par) (b2:= .slice a_k n.kids.length a_ck) (b3:= .int .i64 n.next) (b4:= .slice (some ⟨gp,0,none⟩) n.pu.length a_cp) (b5:= .slice a_o n.out.length a_co) (b6:= .slice a_s n.seen.length a_cs) (b7:= .int .i64 IH.no) (b8:= .slice (some ⟨g8,0,none⟩) n.reqs.length c8') (show w.heap.size+2≠W1.heap.size by omega) q3x
      go_simp
      refine wpAny_one 1 rfl (by kernel_rfl) (by rfl) ?_
      go_simp
      refine wpAny_one 2 rfl (by kernel_rfl) (by rfl) ?_
      go_simp
      refine wpAny_one 4 rfl (by kernel_rfl) (by rfl) ?_
      go_simp
      refine wpAny_done (by kernel_rfl) ?_
      go_simp
      go_wp2_with fail
      go_meet
      case rel=>exact⟨rfl,GR.setW_blk [.int .i64 n.id,.int .i64 n.par,.slice a_k n.kids.length a_ck,.int .i64 n.next,.slice (some ⟨gp,0,none⟩) n.pu.length a_cp,.slice a_o n.out.length a_co,.slice a_s n.seen.length a_cs,.int .i64 IH.no,.slice (some ⟨g8,0,none⟩) n.reqs.length c8'] (o:=0) (xs:=[.int .i64 0,.int .i64 0,.slice none 0 0,.int .i64 0,.slice none 0 0,.slice none 0 0,.slice none 0 0,.int .i64 0,.slice none 0 0]) (unhide HRx),(KeepsL.of_below hx).trans (setW_keeps [.int .i64 n.id,.int .i64 n.par,.slice a_k n.kids.length a_ck,.int .i64 n.next,.slice (some ⟨gp,0,none⟩) n.pu.length a_cp,.slice a_o n.out.length a_co,.slice a_s n.seen.length a_cs,.int .i64 IH.no,.slice (some ⟨g8,0,none⟩) n.reqs.length c8'] x 0)⟩
    case rest=>
     obtain⟨rfl,e4,hkf⟩:=hcut
     rename_i wz _ _ _
     have HBZ:=hide ((unhide HB9).trans (hkf.below (B:=w.heap.size) (fun x hx=>by simp at hx;omega) (unhide HB9).size))
     have HLZ:=hide ((unhide HL9).keeps hkf (fun x hx=>by simp at hx;omega))
     skip
     obtain⟨x0,x1,x2,x3,x4,x5,x6,x7,x8⟩:=nine e4
     clear e4 hkf
     go_wp2_with fail
     refine bodyPost_ret (v:= .tuple #[.agg #[.int .i64 n.id,.int .i64 n.par,.slice a_k n.kids.length a_ck,.int .i64 n.next,.slice (some ⟨gp,0,none⟩) n.pu.length a_cp,.slice a_o n.out.length a_co,.slice a_s n.seen.length a_cs,.int .i64 IH.no,.slice (some ⟨g8,0,none⟩) n.reqs.length c8'],.int .i64 1]) (by simp[results,Tryz.results48,go_sem,x0,x1,x2,x3,x4,x5,x6,x7,x8]) rfl ?_
     rw [unhide HK]
     refine⟨⟨a_k,(some ⟨gp,0,none⟩),a_o,a_s,(some ⟨g8,0,none⟩),a_ck,a_cp,a_co,a_cs,c8'⟩,?_,fun W'' ho=>?_,(unhide HBZ).mono hB,Apart.of_below (unhide HBZ)⟩
     ·simp[ndv,ndc,setReqs,setOld,hITn]
     ·have hold:=((unhide HNO).kc (k:=9) ((KC.of_below (unhide HBZ)).trans (KC.out (unhide H9) ho)) (by omega))
      have hr:=(unhide HLZ).out (w:=w) (by omega) ho
      exact NQ.put hold hold _ _ rfl rfl rfl rfl hold.p.at (fun g' hg' hp'=> .inl (hold.cpB hold g' hg' hp')) hold.o (fun y hy=> .inl (hold.co y hy)) hr (fun y hy=> .inr (by have h1:=hr.lo hy;rw [newC_new (by omega)];omega))
       (fun g' hg' hp' h6=>by have:=hold.cpB hold g' hg' hp';omega) (fun y hy h6=>by have:=hold.co y hy;omega)
   ·have HK:=hide (show keepN n ⟨no,k,nn,1⟩=setReqs n IQ by unfold keepN;rw [show(n).reqs=n.reqs from rfl,unhide HIN,unhide HLQ,if_neg h30])
    obtain⟨c0,c1,c2,c3,c4,c5,c6,c7,c8⟩:=nine (unhide HN_6)
    have hnl:=obj_lt (unhide HN_6)
    have hd30:decide ((30:Int) < ((n.reqs.length+1:Nat):Int))=false:=decide_eq_false (by omega)
    have hIT:IQ.length=n.reqs.length+1:=unhide HLQ
    clear HLQ
    have hITn:=hide hIT
    clear hIT
    go_upto_region 20 with fail
    clear c0 c1 c2 c3 c4 c5 c6 c7 c8 hnl
    obtain⟨c0,c1,c2,c3,c4,c5,c6,c7,c8⟩:=nine (unhide HN_6)
    have y0:=cell_regrown c0
    have y1:=cell_regrown c1
    have y2:=cell_regrown c2
    have y3:=cell_regrown c3
    have y4:=cell_regrown c4
    have y5:=cell_regrown c5
    have y6:=cell_regrown c6
    have y7:=cell_regrown c7
    have y8:=cell_regrown c8
    have hnl:=obj_lt (unhide HN_6)
    have hnr:=obj_lt (unhide HR_6)
    have hnq:=obj_lt (unhide HQ_6)
    clear c0 c1 c2 c3 c4 c5 c6 c7 c8
    go_cut [5] from 11 (fun cd wx=>cd= .int .i64 1∧wx.heap[w.heap.size+2]?=some (.cells #[.int .i64 n.id,.int .i64 n.par,.slice a_k n.kids.length a_ck,.int .i64 n.next,.slice (some ⟨gp,0,none⟩) n.pu.length a_cp,.slice a_o n.out.length a_co,.slice a_s n.seen.length a_cs,.int .i64 n.old,.slice (some ⟨gv,0,none⟩) (n.reqs.length+1) vc] 30 (0,0))∧KeepsL [w.heap.size+2] wc wx)
    case first=>
     refine wp_region_mixF 3 (by kernel_rfl) ?_
     show wpMixF _ _ _ _ _ 5 (Array.replicate 5 false) _ _
     refine wpMixF_take 0 20 rfl (by kernel_rfl) (by kernel_rfl) (by kernel_rfl) (by kernel_rfl) (by kernel_rfl) (fun _ _ _ _ h=>h) (fun K hK=>?_)
     go_simp
     first
      |(refine hK _ ?_;clear hK K)
      |(apply Exists.intro
        refine⟨fun _=>?_,hK _ ?_⟩
        (fail)
        clear hK K)
     clear y0 y1 y2 y3 y4 y5 y6 y7 y8
     refine wpMixF_two 1 rfl rfl (by kernel_rfl) (by rfl) (by rfl) (by decide) (fun x hx=>?_) (fun x hx=>?_)
     ·go_simp
      refine⟨Below.refl _ _,?_⟩
      refine wpMixF_two 2 rfl rfl (by kernel_rfl) (by rfl) (by rfl) (by decide) (fun x2 hx2=>?_) (fun x2 hx2=>?_)
      ·have q3x:=(fourC (obj_step (unhide HQ_6) (Ge.trans hx hx2))).2.2.2
       go_simp
       refine⟨Below.refl _ _,?_⟩
       refine wpMixF_leave (by kernel_rfl) (fun x3 hx3=>?_)
       have hg3:=Ge.trans (Ge.trans hx hx2) hx3
       clear q3x
       have HRx:=hide (obj_step (unhide HR_6) hg3)
       obtain⟨d0,d1,d2,d3,d4,d5,d6,d7,d8⟩:=nine (unhide HRx)
       have f0:=obj_free (unhide HRx) 0
       have f1:=obj_free (unhide HRx) 1
       have f2:=obj_free (unhide HRx) 2
       have f3:=obj_free (unhide HRx) 3
       have f4:=obj_free (unhide HRx) 4
       have f5:=obj_free (unhide HRx) 5
       have f6:=obj_free (unhide HRx) 6
       have f7:=obj_free (unhide HRx) 7
       have f8:=obj_free (unhide HRx) 8
       have hrl:=obj_lt (unhide HRx)
       refine wpAny_one 3 rfl (by kernel_rfl) (by rfl) ?_
       go_simp
       refine wpAny_one 4 rfl (by kernel_rfl) (by rfl) ?_
       go_simp
       refine wpAny_done (by kernel_rfl) ?_
       go_simp
       go_wp2_with fail
       go_meet
       case rel=>exact⟨rfl,GR.setW_blk [.int .i64 n.id,.int .i64 n.par,.slice a_k n.kids.length a_ck,.int .i64 n.next,.slice (some ⟨gp,0,none⟩) n.pu.length a_cp,.slice a_o n.out.length a_co,.slice a_s n.seen.length a_cs,.int .i64 n.old,.slice (some ⟨gv,0,none⟩) (n.reqs.length+1) vc] (o:=0) (xs:=[.int .i64 0,.int .i64 0,.slice none 0 0,.int .i64 0,.slice none 0 0,.slice none 0 0,.slice none 0 0,.int .i64 0,.slice none 0 0]) (unhide HRx),(KeepsL.of_below hg3).trans (setW_keeps [.int .i64 n.id,.int .i64 n.par,.slice a_k n.kids.length a_ck,.int .i64 n.next,.slice (some ⟨gp,0,none⟩) n.pu.length a_cp,.slice a_o n.out.length a_co,.slice a_s n.seen.length a_cs,.int .i64 n.old,.slice (some ⟨gv,0,none⟩) (n.reqs.length+1) vc] x3 0)⟩
      ·have hg3:=Ge.trans hx hx2
       have q3x:=(fourC (obj_step (unhide HQ_6) hg3)).2.2.2
       have HRx:=hide (obj_step (unhide HR_6) hg3)
       obtain⟨d0,d1,d2,d3,d4,d5,d6,d7,d8⟩:=nine (unhide HRx)
       have f0:=obj_free (unhide HRx) 0
       have f1:=obj_free (unhide HRx) 1
       have f2:=obj_free (unhide HRx) 2
       have f3:=obj_free (unhide HRx) 3
       have f4:=obj_free (unhide HRx) 4
       have f5:=obj_free (unhide HRx) 5
       have f6:=obj_free (unhide HRx) 6
       have f7:=obj_free (unhide HRx) 7
       have f8:=obj_free (unhide HRx) 8
       have hrl:=obj_lt (unhide HRx)
       have q3s:=far9 (g:=w.heap.size+2) (i:=3) (b0:= .int .i64 n.id) (b1:= .int .i64 n.par) (b2:= .slice a_k n.kids.length a_ck) (b3:= .int .i64 n.next) (b4:= .slice (some ⟨gp,0,none⟩) n.pu.length a_cp) (b5:= .slice a_o n.out.length a_co) (b6:= .slice a_s n.seen.length a_cs) (b7:= .int .i64 n.old) (b8:= .slice (some ⟨gv,0,none⟩) (n.reqs.length+1) vc) (show w.heap.size+2≠W1.heap.size by omega) q3x
       go_simp
       refine wpAny_one 2 rfl (by kernel_rfl) (by rfl) ?_
       go_simp
       refine wpAny_one 4 rfl (by kernel_rfl) (by rfl) ?_
       go_simp
       refine wpAny_done (by kernel_rfl) ?_
       go_simp
       go_wp2_with fail
       go_meet
       case rel=>exact⟨rfl,GR.setW_blk [.int .i64 n.id,.int .i64 n.par,.slice a_k n.kids.length a_ck,.int .i64 n.next,.slice (some ⟨gp,0,none⟩) n.pu.length a_cp,.slice a_o n.out.length a_co,.slice a_s n.seen.length a_cs,.int .i64 n.old,.slice (some ⟨gv,0,none⟩) (n.reqs.length+1) vc] (o:=0) (xs:=[.int .i64 0,.int .i64 0,.slice none 0 0,.int .i64 0,.slice none 0 0,.slice none 0 0,.slice none 0 0,.int .i64 0,.slice none 0 0]) (unhide HRx),(KeepsL.of_below hg3).trans (setW_keeps [.int .i64 n.id,.int .i64 n.par,.slice a_k n.kids.length a_ck,.int .i64 n.next,.slice (some ⟨gp,0,none⟩) n.pu.length a_cp,.slice a_o n.out.length a_co,.slice a_s n.seen.length a_cs,.int .i64 n.old,.slice (some ⟨gv,0,none⟩) (n.reqs.length+1) vc] x2 0)⟩
     ·have q3x:=(fourC (obj_step (unhide HQ_6) hx)).2.2.2
      have HRx:=hide (obj_step (unhide HR_6) hx)
      obtain⟨d0,d1,d2,d3,d4,d5,d6,d7,d8⟩:=nine (unhide HRx)
      have f0:=obj_free (unhide HRx) 0
      have f1:=obj_free (unhide HRx) 1
      have f2:=obj_free (unhide HRx) 2
      have f3:=obj_free (unhide HRx) 3
      have f4:=obj_free (unhide HRx) 4
      have f5:=obj_free (unhide HRx) 5
      have f6:=obj_free (unhide HRx) 6
      have f7:=obj_free (unhide HRx) 7
      have f8:=obj_free (unhide HRx) 8
      have hrl:=obj_lt (unhide HRx)
      have q3s:=far9 (g:=w.heap.size+2) (i:=3) (b0:= .int .i64 n.id) (b1:= .int .i64 n.par) (b2:= .slice a_k n.kids.length a_ck) (b3:= .int .i64 n.next) (b4:= .slice (some ⟨gp,0,none⟩) n.pu.length a_cp) (b5:= .slice a_o n.out.length a_co) (b6:= .slice a_s n.seen.length a_cs) (b7:= .int .i64 n.old) (b8:= .slice (some ⟨gv,0,none⟩) (n.reqs.length+1) vc) (show w.heap.size+2≠W1.heap.size by omega) q3x
      go_simp
      refine wpAny_one 1 rfl (by kernel_rfl) (by rfl) ?_
      go_simp
      refine wpAny_one 2 rfl (by kernel_rfl) (by rfl) ?_
      go_simp
      refine wpAny_one 4 rfl (by kernel_rfl) (by rfl) ?_
      go_simp
      refine wpAny_done (by kernel_rfl) ?_
      go_simp
      go_wp2_with fail
      go_meet
      case rel=>exact⟨rfl,GR.setW_blk [.int .i64 n.id,.int .i64 n.par,.slice a_k n.kids.length a_ck,.int .i64 n.next,.slice (some ⟨gp,0,none⟩) n.pu.length a_cp,.slice a_o n.out.length a_co,.slice a_s n.seen.length a_cs,.int .i64 n.old,.slice (some ⟨gv,0,none⟩) (n.reqs.length+1) vc] (o:=0) (xs:=[.int .i64 0,.int .i64 0,.slice none 0 0,.int .i64 0,.slice none 0 0,.slice none 0 0,.slice none 0 0,.int .i64 0,.slice none 0 0]) (unhide HRx),(KeepsL.of_below hx).trans (setW_keeps [.int .i64 n.id,.int .i64 n.par,.slice a_k n.kids.length a_ck,.int .i64 n.next,.slice (some ⟨gp,0,none⟩) n.pu.length a_cp,.slice a_o n.out.length a_co,.slice a_s n.seen.length a_cs,.int .i64 n.old,.slice (some ⟨gv,0,none⟩) (n.reqs.length+1) vc] x 0)⟩
    case rest=>
     obtain⟨rfl,e4,hkf⟩:=hcut
     rename_i wz _ _ _
     have HBZ:=hide ((unhide HB6).trans (hkf.below (B:=w.heap.size) (fun x hx=>by simp at hx;omega) (unhide HB6).size))
     have HLZ:=hide ((unhide HL6).keeps hkf (fun x hx=>by simp at hx;omega))
     skip
     obtain⟨x0,x1,x2,x3,x4,x5,x6,x7,x8⟩:=nine e4
     clear e4 hkf
     go_wp2_with fail
     refine bodyPost_ret (v:= .tuple #[.agg #[.int .i64 n.id,.int .i64 n.par,.slice a_k n.kids.length a_ck,.int .i64 n.next,.slice (some ⟨gp,0,none⟩) n.pu.length a_cp,.slice a_o n.out.length a_co,.slice a_s n.seen.length a_cs,.int .i64 n.old,.slice (some ⟨gv,0,none⟩) (n.reqs.length+1) vc],.int .i64 1]) (by simp[results,Tryz.results48,go_sem,x0,x1,x2,x3,x4,x5,x6,x7,x8]) rfl ?_
     rw [unhide HK]
     refine⟨⟨a_k,(some ⟨gp,0,none⟩),a_o,a_s,(some ⟨gv,0,none⟩),a_ck,a_cp,a_co,a_cs,vc⟩,?_,fun W'' ho=>?_,(unhide HBZ).mono hB,Apart.of_below (unhide HBZ)⟩
     ·simp[ndv,ndc,setReqs,unhide hITn]
     ·have hold:=((unhide HNO).kc (k:=9) ((KC.of_below (unhide HBZ)).trans (KC.out (unhide H9) ho)) (by omega))
      have hr:=(unhide HLZ).out (w:=w) (by omega) ho
      exact NQ.put hold hold _ _ rfl rfl rfl rfl hold.p.at (fun g' hg' hp'=> .inl (hold.cpB hold g' hg' hp')) hold.o (fun y hy=> .inl (hold.co y hy)) hr (fun y hy=> .inr (by have h1:=hr.lo hy;rw [newC_new (by omega)];omega))
       (fun g' hg' hp' h6=>by have:=hold.cpB hold g' hg' hp';omega) (fun y hy h6=>by have:=hold.co y hy;omega)
end Go.Proofs.YtdlokncalhopoaaGreat
