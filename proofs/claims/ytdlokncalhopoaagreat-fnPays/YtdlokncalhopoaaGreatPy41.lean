/- Parts. -/
import Derived.Test.YtdlokncalhopoaaGreatPy27
import Derived.Test.YtdlokncalhopoaaGreatPy40
import Derived.Test.YtdlokncalhopoaaGreatPy22
import Derived.BigQuiet
namespace Go.Proofs.YtdlokncalhopoaaGreat
set_option maxHeartbeats 8000000
set_option maxRecDepth 100000
open Go.RowKit
open Mth
theorem specHear_rcpt (n:Nd) (A:Ads) (G:Blks) (c:Nat→Nat) (mK mF mT mI mL:Int) (mk:ByteArray) (mN:Int) (w:World) (B:Nat) (hB:B≤w.heap.size) (h9:∀x,6 < c x→c x=9) (hkl:n.kids.length≤1048600) (hmk:mk.size≤1048576) (hmo:mgOk ⟨mK,mF,mT,mI,mL,mk,mN⟩=true) (hol:n.out.length≤1048576) (h1:mT=n.id) (h2:nearB n mF=true) (h3:mK=2) (h:NQ w B n A G c):Calls Tryz.prog 50 #[ndv n A,.agg #[.int .i64 mK,.int .i64 mF,.int .i64 mT,.int .i64 mI,.int .i64 mL,.string mk,.int .i64 mN]] w (GivesT w B c (setOut n (n.out.filter (fun s=> !outB2 ⟨2,mF,mT,mI,mL,mk,mN⟩ s)),[],0)):=by
 have q0:(mT != n.id)=false:=by simp[h1]
 have q0':(mT == n.id)=true:=by simp[h1]
 clear h1
 subst h3
 obtain⟨FL,hFL⟩:∃FL:Nat→List Snt,∀k,FL k=(n.out.take k).filter (fun s=> !outB2 ⟨2,mF,mT,mI,mL,mk,mN⟩ s):=⟨_,fun _=>rfl⟩
 have HFE:Hid (n.out.filter (fun s=> !outB2 ⟨2,mF,mT,mI,mL,mk,mN⟩ s)=FL n.out.length):=by unfold Hid;rw [hFL,List.take_length]
 rw [unhide HFE]
 have HF0:Hid (FL 0=[]):=by unfold Hid;rw [hFL];rfl
 have HFS:Hid (∀k (hk:k < n.out.length),FL (k+1)=if n.out[k].i=mI∧n.out[k].t=mF then FL k else FL k++[n.out[k]]):=fun k hk=>by
  rw [hFL,hFL,List.take_succ_eq_append_getElem hk,List.filter_append]
  by_cases e:n.out[k].i=mI∧n.out[k].t=mF
  ·rw [if_pos e]
   have e2:(!outB2 ⟨2,mF,mT,mI,mL,mk,mN⟩ n.out[k])=false:=by unfold outB2;rw [decide_eq_true e];rfl
   rw [List.filter_cons,e2]
   simp
  ·rw [if_neg e]
   have e2:(!outB2 ⟨2,mF,mT,mI,mL,mk,mN⟩ n.out[k])=true:=by unfold outB2;rw [decide_eq_false e];rfl
   rw [List.filter_cons,e2]
   simp
 have HFN:Hid (∀k,(FL k).length≤n.out.length):=fun k=>by
  rw [hFL]
  exact Nat.le_trans (List.length_filter_le _ _) (by rw [List.length_take];omega)
 clear hFL HFE
 obtain⟨i0,hi,hz0,hz1,hz2⟩:=info_parts infoSnt
 have HI:=hide (And.intro hi (And.intro hz0 (And.intro hz1 hz2)))
 clear hi hz0 hz1 hz2
 unfold GivesT
 have H9:=hide h9
 clear h9
 have HMO:=hide (fun W=>specMsgOk ⟨2,mF,mT,mI,mL,mk,mN⟩ W (by unfold maxLen;dsimp only;omega))
 rw [hmo] at HMO
 unfold mgv at HMO
 have HNR:=hide (fun W (ha:IntsAt W A.k n.kids)=>specNear n A mF W hkl ha)
 rw [h2] at HNR
 clear hmo h2
 have HNO:=hide (h.nine hB)
 clear h
 go_enter Tryz.func50,Tryz.ntmps50
 go_upto_region 1 with fail
 refine wp_at (fun W0 hW=>?_)
 obtain⟨e1,e2,e3,e4⟩:=allocs3E w (.cells (ndc n A) 30) (.cells #[.int .i64 2,.int .i64 mF,.int .i64 mT,.int .i64 mI,.int .i64 mL,.string mk,.int .i64 mN] 37) (.cells zc9 30)
 rw [←hW] at e1 e2 e3 e4
 have HN:=hide e1
 have HM:=hide e2
 have HR:=hide e3
 have HB0:=hide e4
 have HN0:=hide ((unhide HNO).kc (k:=9) (KC.of_below e4) (by omega))
 clear hW e1 e2 e3 e4 HNO
 obtain⟨m0,m1,m2,m3,m4,m5,m6⟩:=sevenC (unhide HM)
 have hml:=obj_lt (unhide HM)
 have hnl:=obj_lt (unhide HN)
 go_wp2_with fail
 refine(unhide HMO W0).mono ?_
 rintro e W1 ⟨rfl,hb1⟩
 have HN_1:=hide (obj_step (unhide HN) hb1)
 have HM_1:=hide (obj_step (unhide HM) hb1)
 have HR_1:=hide (obj_step (unhide HR) hb1)
 have HB1:=hide ((unhide HB0).trans (hb1.mono (unhide HB0).size))
 have HN1:=hide ((unhide HN0).kc (k:=9) (KC.of_below hb1) (by omega))
 clear hb1 HM HR HN HB0 HN0
 clear m0 m1 m2 m3 m4 m5 m6 hml hnl HMO
 obtain⟨m0,m1,m2,m3,m4,m5,m6⟩:=sevenC (unhide HM_1)
 obtain⟨c0,c1,c2,c3,c4,c5,c6,c7,c8⟩:=nine (unhide HN_1)
 have hml:=obj_lt (unhide HM_1)
 have hnl:=obj_lt (unhide HN_1)
 go_wp2_with fail
 refine(unhide HNR W1 (unhide HN1).at.k).mono ?_
 rintro e W2 ⟨rfl,hb2⟩
 have HN_2:=hide (obj_step (unhide HN_1) hb2)
 have HM_2:=hide (obj_step (unhide HM_1) hb2)
 have HR_2:=hide (obj_step (unhide HR_1) hb2)
 have HB2:=hide ((unhide HB1).trans (hb2.mono (unhide HB1).size))
 have HN2:=hide ((unhide HN1).kc (k:=9) (KC.of_below hb2) (by omega))
 clear hb2 HM_1 HR_1 HN_1 HB1 HN1
 clear m0 m1 m2 m3 m4 m5 m6 c0 c1 c2 c3 c4 c5 c6 c7 c8 hml hnl HNR
 obtain⟨m0,m1,m2,m3,m4,m5,m6⟩:=sevenC (unhide HM_2)
 obtain⟨c0,c1,c2,c3,c4,c5,c6,c7,c8⟩:=nine (unhide HN_2)
 have hml:=obj_lt (unhide HM_2)
 have hnl:=obj_lt (unhide HN_2)
 have HL0:=hide (World.ownsRow_lit (base:=W2.heap.size) (e:=40) (size:=4) W2 #[] 0 (Nat.le_refl _) (by decide) rfl)
 go_wp2_with fail
 clear m0 m1 m2 m3 m4 m5 m6 c0 c1 c2 c3 c4 c5 c6 c7 c8 hml hnl
 go_loopw [7,8] (fun v i wr=>∃(k:Nat) (a:Option Addr) (cp:Nat),k≤n.out.length∧v= .slice a (FL k).length cp∧i= .int .i64 k∧wr.ownsRow W2.heap.size 40 4 (.slice a (FL k).length cp) (FL k).length (GR.flat encSnt (FL k))∧Below W2.heap.size W2 wr) (fun _ i _=>n.out.length - (intOf i).toNat)
 case atStart=>exact⟨0,some ⟨W2.heap.size,0,none⟩,0,Nat.zero_le _,by rw [unhide HF0];rfl,rfl,by rw [unhide HF0];exact unhide HL0,below_one W2 _⟩
 case round=>
  obtain⟨k,a,cp,hk,rfl,rfl,hown,hbw⟩:=hrel
  have HO:=hide hown
  have HBW:=hide hbw
  have HN_3:=hide (obj_step (unhide HN_2) hbw)
  have HM_3:=hide (obj_step (unhide HM_2) hbw)
  have HNK:=hide (unhide HFN k)
  clear hown hbw
  obtain⟨m0,m1,m2,m3,m4,m5,m6⟩:=sevenC (unhide HM_3)
  obtain⟨c0,c1,c2,c3,c4,c5,c6,c7,c8⟩:=nine (unhide HN_3)
  have hml:=obj_lt (unhide HM_3)
  have hnl:=obj_lt (unhide HN_3)
  by_cases hlt:k < n.out.length
  ·have hltI:(k:Int) < (n.out.length:Int):=by omega
   have HFK:=hide (unhide HFS k hlt)
   obtain⟨g,off,e0,hg,s0,s1,s2,s3⟩:=SentAt.four (GR.At.below (unhide HN2).at.o (unhide HBW)) k hlt
   rw [e0] at c5
   clear e0
   generalize n.out[k]=sk at *
   obtain⟨si,st,sk,sn⟩:=sk
   dsimp only at s0 s1 s2 s3 HFK
   obtain⟨FK,hFK⟩:∃FK,FL (k+1)=FK:=⟨_,rfl⟩
   have HX0:=hide hFK
   rw [hFK] at HFK
   clear hFK
   by_cases hA:si=mI
   ·by_cases hB2:st=mF
    ·have HX:Hid (FK=FL k):=by unfold Hid;rw [unhide HFK,if_pos ⟨hA,hB2⟩]
     have x0:(si != mI)=false:=by simp[hA]
     have x1:(st != mF)=false:=by simp[hB2]
     clear hA hB2 HFK
     go_wp2_with fail
     go_quiet (fail)
     go_wp2_with fail
     go_roundw
     case rel=>exact⟨k+1,a,cp,by omega,by rw [unhide HX0,unhide HX],by go_num,by rw [unhide HX0,unhide HX];exact unhide HO,(unhide HBW).trans (Below.mono (B:=(wr.drewN nq).heap.size) ⟨rfl,rfl,rfl,Nat.le_refl _,fun _ _=>rfl⟩ (unhide HBW).size)⟩
     case measure=>simp[intOf];omega
    ·have HX:Hid (FK=FL k++[⟨si,st,sk,sn⟩]):=by unfold Hid;rw [unhide HFK,if_neg (fun e=>hB2 e.2)]
     have x0:(si != mI)=false:=by simp[hA]
     have x1:(st != mF)=true:=by simpa using hB2
     clear hA hB2 HFK
     go_wp2_with fail
     go_quiet (fail)
     have hownd:(wr.drewN nq).ownsRow W2.heap.size 40 4 (.slice a (FL k).length cp) (FL k).length (GR.flat encSnt (FL k)):=unhide HO
     have hnk:=unhide HNK
     obtain⟨hi,hz0,hz1,hz2⟩:=unhide HI
     have hwb:W2.heap.size≤wr.heap.size:=(unhide HBW).size
     go_wp2_with (at_builtin;refine wpList_append_own _ rfl _ _ 26 rfl W2.heap.size 40 i0 (.agg #[.int .i64 0,.int .i64 0,.string ByteArray.empty,.int .i64 0]) 4 40 Tryz.underlying26 hi hz0 hz1 hz2 rfl (by decide) _ _ _ rfl (hownd.alloc _) ⟨wr.heap.size,0,none⟩ 1 1 (encSnt ⟨si,st,sk,sn⟩) rfl rfl ?c1 ?c2 ?c3 ?c4 ?c5 ?_)
     case c1=>exact World.news_of_block (heap_alloc_new (wr.drewN nq) _)
     case c2=>exact encSnt_one _
     case c3=>unfold maxLen;omega
     case c4=>omega
     case c5=>exact Nat.le_trans hwb (below_one (wr.drewN nq) _).size
     intro v' w5 hown' hgrow _
     obtain⟨an,cn,hv,_⟩:=GR.own_at (enc:=encSnt) (sz:=4) (l:=FL k++[⟨si,st,sk,sn⟩]) encSnt_length (by rw [List.length_append,flat_snoc];exact hown')
     rw [List.length_append] at hv
     have hv':v'= .slice an ((FL k).length+1) cn:=hv
     clear hv
     subst hv'
     have HO5:Hid (w5.ownsRow W2.heap.size 40 4 (.slice an FK.length cn) FK.length (GR.flat encSnt FK)):=by
      unfold Hid
      rw [unhide HX,List.length_append,flat_snoc]
      exact hown'
     have HB5:Hid (Below W2.heap.size W2 w5):=((unhide HBW).trans (Below.trans (b:=wr.drewN nq) ⟨rfl,rfl,rfl,Nat.le_refl _,fun _ _=>rfl⟩ ((below_one (wr.drewN nq) (.cells #[.int .i64 si,.int .i64 st,.string sk,.int .i64 sn] 40)).mono hwb))).trans ⟨hgrow.os,hgrow.tape,hgrow.output,hgrow.size,fun x hx=>hgrow.block x (Nat.lt_of_lt_of_le hx (Nat.le_trans hwb (below_one (wr.drewN nq) _).size)) (fun e=>by have:=own_lo hownd e.symm;omega)⟩
     clear hown' hgrow hownd hi hz0 hz1 hz2 c0 c1 c2 c3 c4 c5 c6 c7 c8 m0 m1 m2 m3 m4 m5 m6 s0 s1 s2 s3
     go_wp2_with fail
     go_roundw
     case rel=>exact⟨k+1,an,cn,by omega,by rw [unhide HX0,unhide HX,List.length_append];rfl,by go_num,by rw [unhide HX0];exact unhide HO5,unhide HB5⟩
     case measure=>simp[intOf];omega
   ·have HX:Hid (FK=FL k++[⟨si,st,sk,sn⟩]):=by unfold Hid;rw [unhide HFK,if_neg (fun e=>hA e.1)]
    have x0:(si != mI)=true:=by simpa using hA
    clear hA HFK
    go_wp2_with fail
    go_quiet (fail)
    have hownd:(wr.drewN nq).ownsRow W2.heap.size 40 4 (.slice a (FL k).length cp) (FL k).length (GR.flat encSnt (FL k)):=unhide HO
    have hnk:=unhide HNK
    obtain⟨hi,hz0,hz1,hz2⟩:=unhide HI
    have hwb:W2.heap.size≤wr.heap.size:=(unhide HBW).size
    go_wp2_with (at_builtin;refine wpList_append_own _ rfl _ _ 26 rfl W2.heap.size 40 i0 (.agg #[.int .i64 0,.int .i64 0,.string ByteArray.empty,.int .i64 0]) 4 40 Tryz.underlying26 hi hz0 hz1 hz2 rfl (by decide) _ _ _ rfl (hownd.alloc _) ⟨wr.heap.size,0,none⟩ 1 1 (encSnt ⟨si,st,sk,sn⟩) rfl rfl ?c1 ?c2 ?c3 ?c4 ?c5 ?_)
    case c1=>exact World.news_of_block (heap_alloc_new (wr.drewN nq) _)
    case c2=>exact encSnt_one _
    case c3=>unfold maxLen;omega
    case c4=>omega
    case c5=>exact Nat.le_trans hwb (below_one (wr.drewN nq) _).size
    intro v' w5 hown' hgrow _
    obtain⟨an,cn,hv,_⟩:=GR.own_at (enc:=encSnt) (sz:=4) (l:=FL k++[⟨si,st,sk,sn⟩]) encSnt_length (by rw [List.length_append,flat_snoc];exact hown')
    rw [List.length_append] at hv
    have hv':v'= .slice an ((FL k).length+1) cn:=hv
    clear hv
    subst hv'
    have HO5:Hid (w5.ownsRow W2.heap.size 40 4 (.slice an FK.length cn) FK.length (GR.flat encSnt FK)):=by
     unfold Hid
     rw [unhide HX,List.length_append,flat_snoc]
     exact hown'
    have HB5:Hid (Below W2.heap.size W2 w5):=((unhide HBW).trans (Below.trans (b:=wr.drewN nq) ⟨rfl,rfl,rfl,Nat.le_refl _,fun _ _=>rfl⟩ ((below_one (wr.drewN nq) (.cells #[.int .i64 si,.int .i64 st,.string sk,.int .i64 sn] 40)).mono hwb))).trans ⟨hgrow.os,hgrow.tape,hgrow.output,hgrow.size,fun x hx=>hgrow.block x (Nat.lt_of_lt_of_le hx (Nat.le_trans hwb (below_one (wr.drewN nq) _).size)) (fun e=>by have:=own_lo hownd e.symm;omega)⟩
    clear hown' hgrow hownd hi hz0 hz1 hz2 c0 c1 c2 c3 c4 c5 c6 c7 c8 m0 m1 m2 m3 m4 m5 m6 s0 s1 s2 s3
    go_wp2_with fail
    go_roundw
    case rel=>exact⟨k+1,an,cn,by omega,by rw [unhide HX0,unhide HX,List.length_append];rfl,by go_num,by rw [unhide HX0];exact unhide HO5,unhide HB5⟩
    case measure=>simp[intOf];omega
  ·have hke:k=n.out.length:=by omega
   subst hke
   have hnlt:decide ((n.out.length:Int) < (n.out.length:Int))=false:=by simp
   have HR_3:=hide (obj_step (unhide HR_2) (unhide HBW))
   have HN3:=hide ((unhide HN2).kc (k:=9) (KC.of_below (unhide HBW)) (by omega))
   have HB3:=hide ((unhide HB2).trans ((unhide HBW).mono (unhide HB2).size))
   have h2r:=obj_lt (unhide HR_2)
   clear hlt hk HNK HFS HFN HF0 HL0 HBW HN_2 HM_2 HR_2 HN2 HB2
   have f5n:=obj_free (unhide HN_3) 5
   go_upto_region 14 with fail
   refine wp_at (fun Z hZ=>?_)
   have HN_4:Hid (Z.heap[w.heap.size]?=some (.cells #[.int .i64 n.id,.int .i64 n.par,.slice A.k n.kids.length A.ck,.int .i64 n.next,.slice A.p n.pu.length A.cp,.slice a (FL n.out.length).length cp,.slice A.s n.seen.length A.cs,.int .i64 n.old,.slice A.r n.reqs.length A.cr] 30 (0,0))):=by rw [hZ];exact setN9 (unhide HN_3)
   have HR_4:Hid (Z.heap[w.heap.size+2]?=some (.cells zc9 30 (0,0))):=by rw [hZ];exact oth_set (unhide HR_3) (by omega)
   have HN4:Hid (NQ Z B n A G (newC w.heap.size 9 c)):=by rw [hZ];exact(unhide HN3).kc (k:=9) (KC.set (newC_new (Nat.le_refl _))) (by omega)
   have HO4:Hid (Z.ownsRow W2.heap.size 40 4 (.slice a (FL n.out.length).length cp) (FL n.out.length).length (GR.flat encSnt (FL n.out.length))):=by rw [hZ];exact own_keepsL (unhide HO) (KeepsL.set _) (fun y hy=>by have:y=w.heap.size:=(by simpa using hy);omega)
   have HB4:Hid (Below B w Z):=by rw [hZ];exact((unhide HB3).mono hB).setCell (p:=⟨w.heap.size,5,none⟩) hB _
   have HK4:Hid (Apart c w Z):=by rw [hZ];exact(Apart.of_below (unhide HB3)).keeps (unhide HB3).size (KeepsL.set _) (fun y hy=>by have:y=w.heap.size:=(by simpa using hy);omega)
   clear hZ f5n c0 c1 c2 c3 c4 c5 c6 c7 c8 m0 m1 m2 m3 m4 m5 m6 hml hnl HN_3 HM_3 HR_3 HN3 HB3 HO
   have HRA:=hide (obj_step (unhide HR_4) (below_one Z (.cells #[] 37)))
   have HBA:=hide ((unhide HB4).trans ((below_one Z (.cells #[] 37)).mono (Nat.le_trans hB (unhide HB4).size)))
   have HKA:=hide ((unhide HK4).step (unhide HB4).size (below_one Z (.cells #[] 37)))
   have HNA:=hide ((unhide HN4).kc (k:=9) (KC.of_below (below_one Z (.cells #[] 37))) (by omega))
   have HOA:=hide (GR.own_below (unhide HO4) (below_one Z (.cells #[] 37)))
   obtain⟨c0,c1,c2,c3,c4,c5,c6,c7,c8⟩:=nine (unhide HN_4)
   obtain⟨d0,d1,d2,d3,d4,d5,d6,d7,d8⟩:=nine (unhide HRA)
   have f0:=obj_free (unhide HRA) 0
   have f1:=obj_free (unhide HRA) 1
   have f2:=obj_free (unhide HRA) 2
   have f3:=obj_free (unhide HRA) 3
   have f4:=obj_free (unhide HRA) 4
   have f5:=obj_free (unhide HRA) 5
   have f6:=obj_free (unhide HRA) 6
   have f7:=obj_free (unhide HRA) 7
   have f8:=obj_free (unhide HRA) 8
   have hnl:=obj_lt (unhide HN_4)
   have hrl:=obj_lt (unhide HRA)
   go_wp2_with fail
   refine bodyPost_atN (fun W' hW'=>?_)
   have e4:W'.heap[w.heap.size+2]?=some (.cells #[.int .i64 n.id,.int .i64 n.par,.slice A.k n.kids.length A.ck,.int .i64 n.next,.slice A.p n.pu.length A.cp,.slice a (FL n.out.length).length cp,.slice A.s n.seen.length A.cs,.int .i64 n.old,.slice A.r n.reqs.length A.cr] 30 (0,0)):=by
    rw [hW']
    exact GR.setW_blk [.int .i64 n.id,.int .i64 n.par,.slice A.k n.kids.length A.ck,.int .i64 n.next,.slice A.p n.pu.length A.cp,.slice a (FL n.out.length).length cp,.slice A.s n.seen.length A.cs,.int .i64 n.old,.slice A.r n.reqs.length A.cr] (o:=0) (xs:=[.int .i64 0,.int .i64 0,.slice none 0 0,.int .i64 0,.slice none 0 0,.slice none 0 0,.slice none 0 0,.int .i64 0,.slice none 0 0]) (unhide HRA)
   have hkf:KeepsL [w.heap.size+2] (Z.alloc (.cells #[] 37)) W':=by
    rw [hW']
    exact setW_keeps [.int .i64 n.id,.int .i64 n.par,.slice A.k n.kids.length A.ck,.int .i64 n.next,.slice A.p n.pu.length A.cp,.slice a (FL n.out.length).length cp,.slice A.s n.seen.length A.cs,.int .i64 n.old,.slice A.r n.reqs.length A.cr] (Z.alloc (.cells #[] 37)) 0
   have HAT:=hide (fun W'' (ho:Out c w W' W'')=>(show RM W'' ⟨A.k,A.p,a,A.s,A.r,A.ck,A.cp,cp,A.cs,A.cr⟩ (setOut n (FL n.out.length)) from by
    have kF:KC (newC w.heap.size 9 c) 9 (Z.alloc (.cells #[] 37)) W'':=(KC.keeps hkf (fun y hy=>by have:y=w.heap.size+2:=(by simpa using hy);rw [this];exact newC_new (by omega))).trans (KC.out (unhide H9) ho)
    have hoF:W''.ownsRow W2.heap.size 40 4 (.slice a (FL n.out.length).length cp) (FL n.out.length).length (GR.flat encSnt (FL n.out.length)):=by
     obtain⟨F,hk,hF⟩:=ho
     exact(own_keepsL (own_keepsL (unhide HOA) hkf (fun y hy=>by have:y=w.heap.size+2:=(by simpa using hy);omega)) hk (fun y hy=>by have:=(hF y hy).1;omega))
    have h5:=(unhide HNA).kc (k:=9) kF (by omega)
    exact NQ.put h5 h5 (setOut n (FL n.out.length)) ⟨A.k,A.p,a,A.s,A.r,A.ck,A.cp,cp,A.cs,A.cr⟩ rfl rfl rfl rfl h5.p.at (fun g' hg' hp'=> .inl (h5.cpB h5 g' hg' hp')) hoF (fun y hy=> .inr (by have h1:=own_lo hoF hy;rw [newC_new (by omega)];omega)) h5.r (fun y hy=> .inl (h5.cr y hy))
     (fun g' hg' hp' h6=>by have:=h5.cpB h5 g' hg' hp';omega) (fun y hy h6 e=>by have:=h5.cr y e;omega)))
   have HBF:Hid (Below B w W'):=(unhide HBA).trans (hkf.below (fun x hx=>by have:x=w.heap.size+2:=(by simpa using hx);omega) (Nat.le_trans hB (unhide HBA).size))
   have HKF:=hide (Apart.keeps (c:=c) (unhide HKA) (unhide HBA).size hkf (fun x hx=>by have:x=w.heap.size+2:=(by simpa using hx);omega))
   obtain⟨x0,x1,x2,x3,x4,x5,x6,x7,x8⟩:=nine e4
   clear hW' e4 hkf
   exact bodyPost_ret (v:= .tuple #[.agg #[.int .i64 n.id,.int .i64 n.par,.slice A.k n.kids.length A.ck,.int .i64 n.next,.slice A.p n.pu.length A.cp,.slice a (FL n.out.length).length cp,.slice A.s n.seen.length A.cs,.int .i64 n.old,.slice A.r n.reqs.length A.cr],.slice (some ⟨Z.heap.size,0,none⟩) 0 0,.int .i64 0]) (by simp[results,Tryz.results50,go_sem,x0,x1,x2,x3,x4,x5,x6,x7,x8]) rfl ⟨⟨A.k,A.p,a,A.s,A.r,A.ck,A.cp,cp,A.cs,A.cr⟩,some ⟨Z.heap.size,0,none⟩,0,rfl,unhide HAT,fun W'' _ i hi=>by simp at hi,unhide HBF,unhide HKF⟩
set_option maxHeartbeats 8000000
theorem specHear_pay (n:Nd) (A:Ads) (G:Blks) (c:Nat→Nat) (mK mF mT mI mL:Int) (mk:ByteArray) (mN:Int) (w:World) (B:Nat) (hB:B≤w.heap.size) (h9:∀x,6 < c x→c x=9) (hkl:n.kids.length≤1048600) (hmk:mk.size≤1048576) (hmo:mgOk ⟨mK,mF,mT,mI,mL,mk,mN⟩=true) (hz:NdSz n 1048576) (hP:∃g,A.p=some ⟨g,0,none⟩) (hPc:n.pu.length≤A.cp) (hok:ndOk n=true) (h1:mT=n.id) (h2:nearB n mF=true) (h3:mK=1) (h:NQ w B n A G c):Calls Tryz.prog 50 #[ndv n A,.agg #[.int .i64 mK,.int .i64 mF,.int .i64 mT,.int .i64 mI,.int .i64 mL,.string mk,.int .i64 mN]] w (GivesT w B c ((takeN n ⟨mK,mF,mT,mI,mL,mk,mN⟩).1,if (takeN n ⟨mK,mF,mT,mI,mL,mk,mN⟩).2=true then[ackM n ⟨mK,mF,mT,mI,mL,mk,mN⟩] else[],if (takeN n ⟨mK,mF,mT,mI,mL,mk,mN⟩).2=true then 0 else 1)):=by
 have q0:(mT != n.id)=false:=by simp[h1]
 have q0':(mT == n.id)=true:=by simp[h1]
 clear h1
 subst h3
 have h9n:∀x,6 < newC w.heap.size 9 c x→newC w.heap.size 9 c x=9:=fun x hx=>by
  by_cases hlt:x < w.heap.size
  ·rw [newC_old hlt] at hx ⊢;exact h9 x hx
  ·exact newC_new (by omega)
 have HTK:=hide (fun W (hBW:B≤W.heap.size) (hN:NQ W B n A G (newC w.heap.size 9 c))=>specTake n A G (newC w.heap.size 9 c) 1 mF mT mI mL mk mN W B hBW h9n hz hmk hP hPc hok h2 hN)
 clear h9n hz hP hPc hok
 unfold GivesT at HTK
 dsimp only at HTK ⊢
 generalize (takeN n ⟨1,mF,mT,mI,mL,mk,mN⟩).1=N1 at *
 generalize (if (takeN n ⟨1,mF,mT,mI,mL,mk,mN⟩).2=true then[ackM n ⟨1,mF,mT,mI,mL,mk,mN⟩] else[])=L1 at *
 generalize (if (takeN n ⟨1,mF,mT,mI,mL,mk,mN⟩).2=true then(0:Int) else 1)=code1 at *
 unfold GivesT
 have H9:=hide h9
 clear h9
 have HMO:=hide (fun W=>specMsgOk ⟨1,mF,mT,mI,mL,mk,mN⟩ W (by unfold maxLen;dsimp only;omega))
 rw [hmo] at HMO
 unfold mgv at HMO
 have HNR:=hide (fun W (ha:IntsAt W A.k n.kids)=>specNear n A mF W hkl ha)
 rw [h2] at HNR
 clear hmo h2
 have HNO:=hide (h.nine hB)
 clear h
 go_enter Tryz.func50,Tryz.ntmps50
 go_upto_region 1 with fail
 refine wp_at (fun W0 hW=>?_)
 obtain⟨e1,e2,e3,e4⟩:=allocs3E w (.cells (ndc n A) 30) (.cells #[.int .i64 1,.int .i64 mF,.int .i64 mT,.int .i64 mI,.int .i64 mL,.string mk,.int .i64 mN] 37) (.cells zc9 30)
 rw [←hW] at e1 e2 e3 e4
 have HN:=hide e1
 have HM:=hide e2
 have HR:=hide e3
 have HB0:=hide e4
 have HN0:=hide ((unhide HNO).kc (k:=9) (KC.of_below e4) (by omega))
 clear hW e1 e2 e3 e4 HNO
 obtain⟨m0,m1,m2,m3,m4,m5,m6⟩:=sevenC (unhide HM)
 have hml:=obj_lt (unhide HM)
 have hnl:=obj_lt (unhide HN)
 go_wp2_with fail
 refine(unhide HMO W0).mono ?_
 rintro e W1 ⟨rfl,hb1⟩
 have HN_1:=hide (obj_step (unhide HN) hb1)
 have HM_1:=hide (obj_step (unhide HM) hb1)
 have HR_1:=hide (obj_step (unhide HR) hb1)
 have HB1:=hide ((unhide HB0).trans (hb1.mono (unhide HB0).size))
 have HN1:=hide ((unhide HN0).kc (k:=9) (KC.of_below hb1) (by omega))
 clear hb1 HM HR HN HB0 HN0
 clear m0 m1 m2 m3 m4 m5 m6 hml hnl HMO
 obtain⟨m0,m1,m2,m3,m4,m5,m6⟩:=sevenC (unhide HM_1)
 obtain⟨c0,c1,c2,c3,c4,c5,c6,c7,c8⟩:=nine (unhide HN_1)
 have hml:=obj_lt (unhide HM_1)
 have hnl:=obj_lt (unhide HN_1)
 go_wp2_with fail
 refine(unhide HNR W1 (unhide HN1).at.k).mono ?_
 rintro e W2 ⟨rfl,hb2⟩
 have HN_2:=hide (obj_step (unhide HN_1) hb2)
 have HM_2:=hide (obj_step (unhide HM_1) hb2)
 have HR_2:=hide (obj_step (unhide HR_1) hb2)
 have HB2:=hide ((unhide HB1).trans (hb2.mono (unhide HB1).size))
 have HN2:=hide ((unhide HN1).kc (k:=9) (KC.of_below hb2) (by omega))
 clear hb2 HM_1 HR_1 HN_1 HB1 HN1
 clear m0 m1 m2 m3 m4 m5 m6 c0 c1 c2 c3 c4 c5 c6 c7 c8 hml hnl HNR
 obtain⟨m0,m1,m2,m3,m4,m5,m6⟩:=sevenC (unhide HM_2)
 obtain⟨c0,c1,c2,c3,c4,c5,c6,c7,c8⟩:=nine (unhide HN_2)
 have hml:=obj_lt (unhide HM_2)
 have hnl:=obj_lt (unhide HN_2)
 go_wp2_with fail
 refine(unhide HTK W2 (Nat.le_trans hB (unhide HB2).size) (unhide HN2)).mono ?_
 rintro e W3 ⟨A1,ma,mc,rfl,hat,hmt,hb3,hap⟩
 have HR_3:=hide ((hap _ (obj_lt (unhide HR_2)) (by rw [newC_new (by omega)];omega)).trans (unhide HR_2))
 have HAT1:=hide hat
 have HMT1:=hide hmt
 have HB3:=hide (((unhide HB2).mono hB).trans hb3)
 have HK3:Hid (Apart c w W3):=fun x hx hc=>(hap x (Nat.lt_of_lt_of_le hx (unhide HB2).size) (by rw [newC_old hx];exact hc)).trans ((unhide HB2).block x hx)
 have h23:=hb3.size
 have h02:=(unhide HB2).size
 have h2r:=obj_lt (unhide HR_2)
 clear hat hmt hb3 hap c0 c1 c2 c3 c4 c5 c6 c7 c8 m0 m1 m2 m3 m4 m5 m6 hml hnl HTK HN_2 HM_2 HR_2 HN2
 obtain⟨d0,d1,d2,d3,d4,d5,d6,d7,d8⟩:=nine (unhide HR_3)
 have f0:=obj_free (unhide HR_3) 0
 have f1:=obj_free (unhide HR_3) 1
 have f2:=obj_free (unhide HR_3) 2
 have f3:=obj_free (unhide HR_3) 3
 have f4:=obj_free (unhide HR_3) 4
 have f5:=obj_free (unhide HR_3) 5
 have f6:=obj_free (unhide HR_3) 6
 have f7:=obj_free (unhide HR_3) 7
 have f8:=obj_free (unhide HR_3) 8
 have hrl:=obj_lt (unhide HR_3)
 go_wp2_with fail
 refine bodyPost_atN (fun W' hW'=>?_)
 have e4:W'.heap[w.heap.size+2]?=some (.cells #[.int .i64 N1.id,.int .i64 N1.par,.slice A1.k N1.kids.length A1.ck,.int .i64 N1.next,.slice A1.p N1.pu.length A1.cp,.slice A1.o N1.out.length A1.co,.slice A1.s N1.seen.length A1.cs,.int .i64 N1.old,.slice A1.r N1.reqs.length A1.cr] 30 (0,0)):=by
  rw [hW']
  exact GR.setW_blk [.int .i64 N1.id,.int .i64 N1.par,.slice A1.k N1.kids.length A1.ck,.int .i64 N1.next,.slice A1.p N1.pu.length A1.cp,.slice A1.o N1.out.length A1.co,.slice A1.s N1.seen.length A1.cs,.int .i64 N1.old,.slice A1.r N1.reqs.length A1.cr] (o:=0) (xs:=[.int .i64 0,.int .i64 0,.slice none 0 0,.int .i64 0,.slice none 0 0,.slice none 0 0,.slice none 0 0,.int .i64 0,.slice none 0 0]) (unhide HR_3)
 have hkf:KeepsL [w.heap.size+2] W3 W':=by
  rw [hW']
  exact setW_keeps [.int .i64 N1.id,.int .i64 N1.par,.slice A1.k N1.kids.length A1.ck,.int .i64 N1.next,.slice A1.p N1.pu.length A1.cp,.slice A1.o N1.out.length A1.co,.slice A1.s N1.seen.length A1.cs,.int .i64 N1.old,.slice A1.r N1.reqs.length A1.cr] W3 0
 have HAT:=hide (fun W'' (ho:Out c w W' W'')=>(show RM W'' A1 N1 from(by
  obtain⟨F,hk,hF⟩:=ho
  exact unhide HAT1 _ ⟨(w.heap.size+2)::F,KeepsL.trans (b:=W') (hkf.mono (fun x hx=>by simp at hx;simp[hx])) (hk.mono (fun x hx=>by simp[hx])),fun y hy=>by
   rcases List.mem_cons.1 hy with h1|h1
   ·rw [h1];exact⟨h2r,by rw [newC_new (by omega)];omega⟩
   ·exact⟨Nat.lt_of_lt_of_le (hF y h1).1 h02,by rw [newC_old (hF y h1).1];exact(hF y h1).2⟩⟩)))
 have HMT:=hide (fun W'' (ho:Out c w W' W'')=>(show GR.At encM 7 W'' ma L1 from(by
  obtain⟨F,hk,hF⟩:=ho
  exact unhide HMT1 _ ⟨(w.heap.size+2)::F,KeepsL.trans (b:=W') (hkf.mono (fun x hx=>by simp at hx;simp[hx])) (hk.mono (fun x hx=>by simp[hx])),fun y hy=>by
   rcases List.mem_cons.1 hy with h1|h1
   ·rw [h1];exact⟨h2r,by rw [newC_new (by omega)];omega⟩
   ·exact⟨Nat.lt_of_lt_of_le (hF y h1).1 h02,by rw [newC_old (hF y h1).1];exact(hF y h1).2⟩⟩)))
 have HBF:Hid (Below B w W'):=(unhide HB3).trans (hkf.below (fun x hx=>by have:x=w.heap.size+2:=(by simpa using hx);omega) (Nat.le_trans hB (unhide HB3).size))
 have HKF:=hide (Apart.keeps (c:=c) (unhide HK3) (unhide HB3).size hkf (fun x hx=>by have:x=w.heap.size+2:=(by simpa using hx);omega))
 obtain⟨x0,x1,x2,x3,x4,x5,x6,x7,x8⟩:=nine e4
 clear hW' e4 hkf
 exact bodyPost_ret (v:= .tuple #[.agg #[.int .i64 N1.id,.int .i64 N1.par,.slice A1.k N1.kids.length A1.ck,.int .i64 N1.next,.slice A1.p N1.pu.length A1.cp,.slice A1.o N1.out.length A1.co,.slice A1.s N1.seen.length A1.cs,.int .i64 N1.old,.slice A1.r N1.reqs.length A1.cr],.slice ma L1.length mc,.int .i64 code1]) (by simp[results,Tryz.results50,go_sem,x0,x1,x2,x3,x4,x5,x6,x7,x8]) rfl ⟨A1,ma,mc,rfl,unhide HAT,unhide HMT,unhide HBF,unhide HKF⟩
def hearG (n:Nd) (m:Mg):Nd×List Mg×Int:=if m.T=n.id∧nearB n m.F=true then hearN n m else(n,[],3)
theorem kids_par {n:Nd} (hok:ndOk n=true):hasB n.kids n.par=false:=by
 have h1:=(ndOk_parts hok).1
 unfold placeB at h1
 simp only[Bool.and_eq_true] at h1
 have h2:=chk_mem h1.2
 cases hh:hasB n.kids n.par
 ·rfl
 ·rw [has_iff] at hh
  have:=h2 _ hh
  unfold kidB at this
  simp at this
theorem specHear (n:Nd) (A:Ads) (G:Blks) (c:Nat→Nat) (mK mF mT mI mL:Int) (mk:ByteArray) (mN:Int) (w:World) (B:Nat) (hB:B≤w.heap.size) (h9:∀x,6 < c x→c x=9)
 (hz:NdSz n 1048576) (hmk:mk.size≤1048576) (hok:ndOk n=true) (hmo:mgOk ⟨mK,mF,mT,mI,mL,mk,mN⟩=true) (hP:∃g,A.p=some ⟨g,0,none⟩) (hPc:n.pu.length≤A.cp) (h:NQ w B n A G c):
 Calls Tryz.prog 50 #[ndv n A,.agg #[.int .i64 mK,.int .i64 mF,.int .i64 mT,.int .i64 mI,.int .i64 mL,.string mk,.int .i64 mN]] w (GivesT w B c (hearG n ⟨mK,mF,mT,mI,mL,mk,mN⟩)):=by
 have hkl:n.kids.length≤1048600:=Nat.le_trans hz.k (by omega)
 have h0:0≤n.next:=by have h:=(ndOk_parts hok).2.2.2.1;unfold smB at h;simp at h;omega
 by_cases h1:mT=n.id
 ·cases h2:nearB n mF
  ·rw [show hearG n ⟨mK,mF,mT,mI,mL,mk,mN⟩=(n,[],3) from if_neg (fun h=>by have:=h.2;dsimp only at this;rw [h2] at this;exact absurd this (by simp))]
   exact specHear_badN n A G c mK mF mT mI mL mk mN w B hB h9 hkl hmk hmo h1 h2 h
  ·rw [show hearG n ⟨mK,mF,mT,mI,mL,mk,mN⟩=hearN n ⟨mK,mF,mT,mI,mL,mk,mN⟩ from if_pos ⟨h1,h2⟩]
   by_cases k1:mK=1
   ·rw [show hearN n ⟨mK,mF,mT,mI,mL,mk,mN⟩=_ from if_pos k1]
    exact specHear_pay n A G c mK mF mT mI mL mk mN w B hB h9 hkl hmk hmo hz hP hPc hok h1 h2 k1 h
   by_cases k2:mK=2
   ·rw [show hearN n ⟨mK,mF,mT,mI,mL,mk,mN⟩=_ from(if_neg k1).trans (if_pos k2)]
    have:=specHear_rcpt n A G c mK mF mT mI mL mk mN w B hB h9 hkl hmk hmo hz.o h1 h2 k2 h
    rw [k2] at this ⊢
    exact this
   have k0:mK=0:=by
    unfold mgOk at hmo
    rw [Bool.and_eq_true] at hmo
    have q:=hmo.2
    dsimp only at q
    by_cases k0:mK=0
    ·exact k0
    ·rw [if_neg k0,if_neg k1,if_neg k2] at q
     exact absurd q (by simp)
   by_cases h4:mF=n.par
   ·rw [show hearN n ⟨mK,mF,mT,mI,mL,mk,mN⟩=(n,[],1) from(if_neg k1).trans ((if_neg k2).trans (if_neg (by dsimp only;rw [h4,kids_par hok];simp)))]
    exact specHear_up n A G c mK mF mT mI mL mk mN w B hB h9 hkl hmk hmo h1 h2 k0 h4 h
   ·have hk:hasB n.kids mF=true:=by
     unfold nearB at h2
     rw [decide_eq_false h4,Bool.and_false,Bool.false_or] at h2
     exact h2
    rw [show hearN n ⟨mK,mF,mT,mI,mL,mk,mN⟩=_ from(if_neg k1).trans ((if_neg k2).trans (if_pos hk))]
    exact specHear_give n A G c mK mF mT mI mL mk mN w B hB h9 hkl hmk hmo hz hP hPc h0 h1 h2 k0 h4 h
 ·rw [show hearG n ⟨mK,mF,mT,mI,mL,mk,mN⟩=(n,[],3) from if_neg (fun h=>h1 h.1)]
  exact specHear_badT n A G c mK mF mT mI mL mk mN w B hB h9 hkl hmk hmo h1 h
end Go.Proofs.YtdlokncalhopoaaGreat
