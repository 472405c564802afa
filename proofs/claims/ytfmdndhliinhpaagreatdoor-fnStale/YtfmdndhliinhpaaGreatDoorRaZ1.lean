/-
  Parts of proofs that stand more than once, each said once.
-/
import Derived.Test.YtfmdndhliinhpaaGreatDoorRows
import Derived.WalkSpells
import Derived.ShutString
import Derived.Lib.QuietBelow
import Derived.Laws.Cover1
import Derived.Laws.AppendOwnNone
import Derived.Deep.DeepCutAuto
import Derived.Deep.CutBlock
import Derived.Shelf.Spec.SearchS
import Derived.Deep.RegionHeldLaw
import Derived.Deep.AppendLies
import Derived.Lib.BufferWrite
import Derived.Laws.CopyOwn
import Derived.Lib.ItoaLen
import Derived.Shelf.SortM.Plain
import Derived.Shelf.SortM.SortNone
import Derived.Shelf.SlicesE.Clone
import Derived.Sort.OwnSortedInts
import Derived.Stop.Asserts
import Derived.Shelf.Spec.SlicesInsertGrow
import Derived.Maps.Ext
import Derived.Lib.SlMapFilter
import Derived.Shelf.SlIterI.Nil
import Derived.Laws.EntriesVeiled
import Derived.OpenShut
import Derived.Stop.LaidTwo
import Derived.LaidHandle
import Derived.OpenVars
namespace Go.Proofs.YtfmdndhliinhpaaGreatDoor
set_option maxRecDepth 100000
variable{P:Prop}
theorem aqH(h:P:=by
 rw [hW'];exact GR.setW_blk [.int .i64 n.id,.int .i64 n.par,.slice A.k n.kids.length A.ck,.int .i64 n.next,.slice A.p n.pu.length A.cp,.slice A.o n.out.length A.co,.slice A.s n.seen.length A.cs,.int .i64 n.old,.slice A.r n.reqs.length A.cr] (o:=0) (xs:=[.int .i64 0,.int .i64 0,.slice none 0 0,.int .i64 0,.slice none 0 0,.slice none 0 0,.slice none 0 0,.int .i64 0,.slice none 0 0]) oI):P:=h
theorem Za0(h:P:=by
 unfold eT;have H9:=hide h9;clear h9;have Ai:=hide (fun W (ha:aH W A.p n.pu)=>ou A.p A.cp n.pu key W hl ha);rw [hpp] at Ai;unfold wY at Ai;clear hpp;have hbw0:=ay w (.cells (fO n A) 30);have l7:=hide (h.nine hB);clear h;go_enter Tryz.func64,Tryz.ntmps64
 go_upto_region 1 with fail;refine wp_at (fun W0 hW=>?_);obtain⟨e1,e2,e3⟩:=jL w (.cells (fO n A) 30) (.cells iV 30);open ajD in exact aqh):P:=h
theorem Za1(h:P:=by
 open am2 in exact aaI):P:=h
theorem Za2(h:P:=by
 open am1 in exact aaI):P:=h
theorem Za3(h:P:=by
 refine gW 8 rfl (by kernel_rfl) (by rfl) (by decide) (fun x4 hx4=>?_);have Rx:=hide (Pg.trans (hx4.mono Pg.size));have Jr:qY.heap.size≤x4.heap.size:=Rx.size;have IE:=hide (GR.own_below Px hx4);have AP:=hide (au CF hx4);clear hx4;obtain⟨v4,y4,Qg,Mx,Bq,Va⟩:=dG x4 qY.heap.size 24 24 3 i0 (.int .i64 0) 1 8 Tryz.underlying24 hi0 hz0 hz1' hz2 rfl (by decide) (.slice avR (pos) cvR) (pos) (GR.flat aP ((aQ s0 mL).take pos)) IE ⟨rb,0,none⟩ 1 1 (aP mI) rfl (World.news_of_block AP) (by intro u hu;simp at hu;subst hu;rfl) (by unfold maxLen;omega) (by omega) Jr;refine Lib.wp_append_run x4 (.tmp 131) (.tmp 134) 24 24 rfl _ _ (by simp[Act.eval]) (by simp[Act.eval]) v4 y4 Qg ?_;refine⟨(Below.refl _ _).grown Bq Jr (fun b hb=>(IE.lt b hb).1),?_⟩;go_simp;have Ry:=hide (Rx.grown Bq Jr (fun b hb=>(IE.lt b hb).1));have LK:Hid (y4.ownsRow qY.heap.size 3 1 v4 (pos+1) (GR.flat aP ((aQ s0 mL).take pos++[mI]))):=hide (by rw [GR.flat_append,GR.flat_one];exact Mx);have Xy:=hide (show y4.heap[rb]?=some (.cells #[.int .i64 mI] 3 (0,0)) from by rw [Bq.block _ (aA (ah AP)) (fun hm=>ah Pf _ hm.symm rfl)];exact AP);open an9 in exact Tn):P:=h
theorem aug(h:P:=by
 rw [hX];exact GR.setW_blk [.int .i64 n.id,.int .i64 n.par,.slice A1.k n.kids.length A1.ck,.int .i64 n.next,.slice A1.p n.pu.length A1.cp,.slice A1.o n.out.length A1.co,.slice A1.s n.seen.length A1.cs,.int .i64 n.old,.slice A1.r n.reqs.length A1.cr] (o:=0) (xs:=[.int .i64 n.id,.int .i64 n.par,.slice A.k n.kids.length A.ck,.int .i64 n.next,.slice A.p n.pu.length A.cp,.slice A.o n.out.length A.co,.slice A.s n.seen.length A.cs,.int .i64 n.old,.slice A.r n.reqs.length A.cr]) kE):P:=h
theorem auh(h:P:=by
 rw [hX];exact aM [.int .i64 n.id,.int .i64 n.par,.slice A1.k n.kids.length A1.ck,.int .i64 n.next,.slice A1.p n.pu.length A1.cp,.slice A1.o n.out.length A1.co,.slice A1.s n.seen.length A1.cs,.int .i64 n.old,.slice A1.r n.reqs.length A1.cr] W3 0):P:=h
theorem Za4(h:P:=by
 open atK in exact Fe):P:=h
theorem Za5(h:P:=by
 clear hu;unfold gX at jr;have NY:=hide (fun W=>jo ⟨0,no,k,nn,⟨mK,mF,mT,mI,mL,mk,mN⟩⟩ W (by unfold maxLen;dsimp only;omega) (by unfold maxLen;dsimp only;omega));open af4 in exact AR):P:=h
theorem Za6(h:P:=by
 clear Cz tZ HKZ Ra;obtain⟨c0,c1,c2,c3,c4,c5,c6,c7,c8⟩:=nine Ik;obtain⟨s0,s1,s2,s3⟩:=fC XF;open afS in exact Fh):P:=h
theorem Za7(h:P:=by
 have hnl:=aA e1;clear hW e1 e2 p0 p1 p2 p3 p4 p5 p6 p7 p8 p9 mZ;obtain⟨⟨p0,p1,p2,p3,p4,p5,p6,p7,p8,p9,mZ⟩,_⟩:=bX Pp;have awi:=aA Pp;have y0:=cell_regrown c0;have z0:=cell_regrown p0;have z1:=cell_regrown p1;have z2:=cell_regrown p2;have z3:=cell_regrown p3;have z4:=cell_regrown p4;have z5:=cell_regrown p5;have z6:=cell_regrown p6;have z7:=cell_regrown p7;have z8:=cell_regrown p8;have z9:=cell_regrown p9;have z10:=cell_regrown mZ;clear p0 p1 p2 p3 p4 p5 p6 p7 p8 p9 mZ c0;refine bJ 5 (by kernel_rfl) ?_;show dZ _ _ _ _ _ 7 (Array.replicate 7 false) _ _
 refine tk [0,1,2,3,4] ?_;iterate 5 (refine oJ (fun K hK=>?_);go_simp;refine hK _ ?_;clear hK K)
 refine kK ?_;clear y0 z0 z1 z2 z3 z4 z5 z6 z7 z8 z9 z10;refine aZ (by kernel_rfl) (fun x hx=>?_);have HXX:=hide (HX x (vR.step hx));clear hx;refine aF 5 rfl (by kernel_rfl) (by rfl) ?_;go_simp;refine HXX.mono ?_;rintro e y ⟨rfl,A',G',c',v',hY⟩;have HY:=hide hY;clear hY HXX;refine aF 6 rfl (by kernel_rfl) (by rfl) ?_;go_simp;refine wpAny_done (by kernel_rfl) ?_;go_simp;go_wp2_with fail;go_ret;exact⟨rfl,A',G',c',v',HY⟩):P:=h
theorem Za8(h:P:=by
 open atI in exact Fe):P:=h
theorem Za9(h:P:=by
 go_wp2_with fail;go_loopw [9,10] (fun v j wr=>∃k g cp:Nat,k≤s0.ids.length∧j= .int .i64 k∧v= .slice (some ⟨g,0,none⟩) (mU s0 mL k).length cp∧wr.ownsRow W3.heap.size 3 1 v (mU s0 mL k).length (GR.flat aP (mU s0 mL k))∧(mU s0 mL k=[]→cp=0)∧Below W3.heap.size W3 wr) (fun _ j _=>s0.ids.length - (intOf j).toNat)
 case atStart=>exact⟨0,_,_,Nat.zero_le _,rfl,rfl,World.ownsRow_lit _ #[] 0 (Nat.le_refl _) (by decide) rfl,fun _=>rfl,ay _ _⟩
 case round=>
  obtain⟨k,g,cp,hk,rfl,rfl,hown,arE,hbel⟩:=hrel;have acQ:=hide arE;clear arE;have fG:=hide hbel;obtain⟨_,s31,s32⟩:=yX (au XC hbel);clear hbel;by_cases hlt:k < s0.ids.length
  ·obtain⟨eb,hgb,hcell⟩:=(afq.below fG) k hlt;open anl in exact aaK
  ·have hke:k=s0.ids.length:=by omega
   subst hke;have hd:decide ((s0.ids.length:Int) < (s0.ids.length:Int))=false:=by simp
   rw [yG] at hown acQ;have awp:(Value.slice (some ⟨g,0,none⟩) (mU s0 mL s0.ids.length).length cp)= .slice (some ⟨g,0,none⟩) (aQ s0 mL).length cp:=by rw [yG]
   rw [yG];go_wp2_with fail;go_meet
   case rel=>exact⟨g,cp,rfl,hown,acQ,fG⟩):P:=h
theorem aql(h:P:=by
 open atH in exact Fe):P:=h
theorem adp(h:P:=by
 open afx in exact apB):P:=h
theorem adq(h:P:=by
 rw [hR];have HR:=hide hR;clear hR;cases hk:keyOk k.data.toList
 ·have HK:=hide (fun w1=>lD k false w1 hs hk);cases hn:eU n
  ·have HN:=hide (fun w1=>dW n false w1 hn);have HP:=hide (show R=(decide (no=0)&&false&&false&&kN ⟨mK,mF,mT,mI,mL,mk,mN⟩) by rw [←ah HR];simp[cZ,hk,hn]);clear HR;clear hk hn;go_enter Tryz.func57,Tryz.ntmps57
   go_wp2_with (first|(go_at_call_of 25 k;refine(HK _).mono ?_;rintro e w1 ⟨rfl,rfl⟩)|(go_at_call_of 21 n;refine(HN _).mono ?_;rintro e w1 ⟨rfl,rfl⟩))
   all_goals
    go_ret
    refine⟨aD ?_,ay w _⟩
    rw [ah HP]
    simp[kN, *]
  ·have HN:=hide (fun w1=>dW n true w1 hn);have HP:=hide (show R=(decide (no=0)&&false&&true&&kN ⟨mK,mF,mT,mI,mL,mk,mN⟩) by rw [←ah HR];simp[cZ,hk,hn]);clear HR;clear hk hn;go_enter Tryz.func57,Tryz.ntmps57
   go_wp2_with (first|(go_at_call_of 25 k;refine(HK _).mono ?_;rintro e w1 ⟨rfl,rfl⟩)|(go_at_call_of 21 n;refine(HN _).mono ?_;rintro e w1 ⟨rfl,rfl⟩))
   all_goals
    go_ret
    refine⟨aD ?_,ay w _⟩
    rw [ah HP]
    simp[kN, *]
 ·have HK:=hide (fun w1=>lD k true w1 hs hk);cases hn:eU n
  ·have HN:=hide (fun w1=>dW n false w1 hn);have HP:=hide (show R=(decide (no=0)&&true&&false&&kN ⟨mK,mF,mT,mI,mL,mk,mN⟩) by rw [←ah HR];simp[cZ,hk,hn]);clear HR;clear hk hn;go_enter Tryz.func57,Tryz.ntmps57
   go_wp2_with (first|(go_at_call_of 25 k;refine(HK _).mono ?_;rintro e w1 ⟨rfl,rfl⟩)|(go_at_call_of 21 n;refine(HN _).mono ?_;rintro e w1 ⟨rfl,rfl⟩))
   all_goals
    go_ret
    refine⟨aD ?_,ay w _⟩
    rw [ah HP]
    simp[kN, *]
  ·have HN:=hide (fun w1=>dW n true w1 hn);have HP:=hide (show R=(decide (no=0)&&true&&true&&kN ⟨mK,mF,mT,mI,mL,mk,mN⟩) by rw [←ah HR];simp[cZ,hk,hn]);clear HR;clear hk hn;go_enter Tryz.func57,Tryz.ntmps57
   go_wp2_with (first|(go_at_call_of 25 k;refine(HK _).mono ?_;rintro e w1 ⟨rfl,rfl⟩)|(go_at_call_of 21 n;refine(HN _).mono ?_;rintro e w1 ⟨rfl,rfl⟩))
   all_goals
    go_ret
    refine⟨aD ?_,ay w _⟩
    rw [ah HP]
    simp[kN, *]):P:=h
theorem aqm(h:P:=by
 by_cases hmK:mK=0
 case' neg=>
  have au6:¬(0:Int)=mK:=fun e=>hmK e.symm
  go_wp2_with fail
  go_ret
  exact⟨aD (by rw [ah HP];simp[kN,hmK]),iJ⟩
 subst hmK;by_cases hmF:mF=0
 case' neg=>
  have au4:¬(0:Int)=mF:=fun e=>hmF e.symm
  go_wp2_with fail
  go_ret
  exact⟨aD (by rw [ah HP];simp[kN,hmF]),iJ⟩
 subst hmF;by_cases hmT:mT=0
 case' neg=>
  have au9:¬(0:Int)=mT:=fun e=>hmT e.symm
  go_wp2_with fail
  go_ret
  exact⟨aD (by rw [ah HP];simp[kN,hmT]),iJ⟩
 subst hmT;by_cases hmI:mI=0
 case' neg=>
  have au5:¬(0:Int)=mI:=fun e=>hmI e.symm
  go_wp2_with fail
  go_ret
  exact⟨aD (by rw [ah HP];simp[kN,hmI]),iJ⟩
 subst hmI;by_cases hmL:mL=0
 case' neg=>
  have au7:¬(0:Int)=mL:=fun e=>hmL e.symm
  go_wp2_with fail
  go_ret
  exact⟨aD (by rw [ah HP];simp[kN,hmL]),iJ⟩
 subst hmL;by_cases hmk:mk.toList=[]
 case' neg=>
  go_wp2_with fail
  go_ret
  exact⟨aD (by rw [ah HP];simp[kN,hmk]),iJ⟩
 by_cases hmN:mN=0
 case' neg=>
  have au8:¬(0:Int)=mN:=fun e=>hmN e.symm
  go_wp2_with fail
  go_ret
  exact⟨aD (by rw [ah HP];simp[kN,hmk,hmN]),iJ⟩
 subst hmN;go_wp2_with fail;go_ret;exact⟨aD (by rw [ah HP];simp[kN,hmk]),iJ⟩):P:=h
theorem aqp(h:P:=by
 go_wp2_with fail;refine aR (fun W' hW'=>?_)
 have e4:W'.heap[w.heap.size+2]?=some (.cells #[.int .i64 n.id,.int .i64 n.par,.slice a_k n.kids.length aK,.int .i64 n.next,.slice (some ⟨gp,0,none⟩) n.pu.length bq,.slice dP n.out.length aO,.slice (some ⟨G.s,0,none⟩) n.seen.length aL,.int .i64 n.old,.slice fA n.reqs.length aT] 30 (0,0)):=by
  rw [hW'];exact GR.setW_blk [.int .i64 n.id,.int .i64 n.par,.slice a_k n.kids.length aK,.int .i64 n.next,.slice (some ⟨gp,0,none⟩) n.pu.length bq,.slice dP n.out.length aO,.slice (some ⟨G.s,0,none⟩) n.seen.length aL,.int .i64 n.old,.slice fA n.reqs.length aT] (o:=0) (xs:=[.int .i64 0,.int .i64 0,.slice none 0 0,.int .i64 0,.slice none 0 0,.slice none 0 0,.slice none 0 0,.int .i64 0,.slice none 0 0]) jV
 have fu:aC [w.heap.size+2] (W8.alloc (.cells #[] 32)) W':=by
  rw [hW'];exact aM [.int .i64 n.id,.int .i64 n.par,.slice a_k n.kids.length aK,.int .i64 n.next,.slice (some ⟨gp,0,none⟩) n.pu.length bq,.slice dP n.out.length aO,.slice (some ⟨G.s,0,none⟩) n.seen.length aL,.int .i64 n.old,.slice fA n.reqs.length aT] (W8.alloc (.cells #[] 32)) 0
 have UQ:w.heap.size+2≠gi:=by omega
 have Pm:=hide (Xq.kc (k:=9) (KC.keeps fu (fun x hx=>by have:x=w.heap.size+2:=(by simpa using hx);rw [this];exact Ac _ (by omega) UQ)) (by omega))
 have HAT:Hid (∀W'',Out c w W' W''→RM W'' (⟨a_k,(some ⟨gp,0,none⟩),dP,(some ⟨G.s,0,none⟩),fA,aK,bq,aO,aL,aT⟩:bQ) (bn n (n.seen.set i ⟨mF,bY s0 mL,aQ s0 mL⟩))):=fun W'' ho=>by
  obtain⟨F,hk,hF⟩:=ho
  have hold:=(Pm.kc (k:=9) (KC.keeps hk (fun x hx=>HCO x (hF x hx).1 (hF x hx).2)) (by omega))
  have ho:Out c w W' W'':=⟨F,hk,hF⟩
  exact hold.rm
 have Cr:Hid (∀W'',Out c w W' W''→GR.At je 7 W'' (some ⟨W8.heap.size,0,none⟩) []):=fun W'' ho j hj=>(by simp at hj)
 have lH:Hid (Below B w W'):=Xc.trans (fu.below (fun x hx=>by have:x=w.heap.size+2:=(by simpa using hx);omega) (by have h1:=aA jV;omega));have qg:=hide (Apart.keeps (c:=c) Xh (by have h1:=aA jV;omega) fu (fun x hx=>by have:x=w.heap.size+2:=(by simpa using hx);omega));obtain⟨x0,x1,x2,x3,x4,x5,x6,x7,x8⟩:=nine e4;clear hW' e4 fu
 first
  |exact bodyPost_ret (v:= .tuple #[.agg #[.int .i64 n.id,.int .i64 n.par,.slice a_k n.kids.length aK,.int .i64 n.next,.slice (some ⟨gp,0,none⟩) n.pu.length bq,.slice dP n.out.length aO,.slice (some ⟨G.s,0,none⟩) n.seen.length aL,.int .i64 n.old,.slice fA n.reqs.length aT],.slice (some ⟨W8.heap.size,0,none⟩) 0 0,.int .i64 1]) (by simp[results,Tryz.results97,go_sem,x0,x1,x2,x3,x4,x5,x6,x7,x8]) rfl ⟨(⟨a_k,(some ⟨gp,0,none⟩),dP,(some ⟨G.s,0,none⟩),fA,aK,bq,aO,aL,aT⟩:bQ),(some ⟨W8.heap.size,0,none⟩),⟨0,by simp[fU,fO,bn]⟩,HAT,Cr,lH,qg⟩
  |exact bodyPost_ret (v:= .tuple #[.agg #[.int .i64 n.id,.int .i64 n.par,.slice a_k n.kids.length aK,.int .i64 n.next,.slice (some ⟨gp,0,none⟩) n.pu.length bq,.slice dP n.out.length aO,.slice (some ⟨G.s,0,none⟩) n.seen.length aL,.int .i64 n.old,.slice fA n.reqs.length aT],.slice (some ⟨W8.heap.size,0,none⟩) 0 0,.int .i64 1]) (by simp[results,Tryz.results97,go_sem,x0,x1,x2,x3,x4,x5,x6,x7,x8]) rfl ⟨(⟨a_k,(some ⟨gp,0,none⟩),dP,(some ⟨G.s,0,none⟩),fA,aK,bq,aO,aL,aT⟩:bQ),(some ⟨W8.heap.size,0,none⟩),0,by simp[fU,fO,bn],HAT,Cr,lH,qg⟩):P:=h
theorem aqr(h:P:=by
 go_simp;refine aF 3 rfl (by kernel_rfl) (by rfl) ?_;go_simp;refine (ah HDO).mono ?_;clear HDO;rintro e w5 ⟨A', a', cp', rfl, hrm, _, hb5⟩;have HRM := hide hrm;have jd := hide hb5;have El := hide ((ah uM).draw ((ah uM).cur.keep_below hb5) (Keeps.of_below hb5));clear hrm hb5 d0 d1 d2 d3 d4 d5 d6 d7 d8;obtain ⟨e0, e1, e2, e3, e4, e5, e6, e7, e8⟩ := nine (ah El).own;have f0 := aj (ah El).own 0;have f1 := aj (ah El).own 1;have f2 := aj (ah El).own 2;have f3 := aj (ah El).own 3;have f4 := aj (ah El).own 4;have f5 := aj (ah El).own 5;have f6 := aj (ah El).own 6;have f7 := aj (ah El).own 7;have f8 := aj (ah El).own 8;have auT := aA (ah El).own;go_simp;refine eO 4 rfl (by kernel_rfl) (by kernel_rfl) (by kernel_rfl) (fun _ _ _ _ h => h) (fun K hK => ?_);open akS in exact Om):P:=h
theorem aqs(h:P:=by
 refine aR (fun W' hW'=>?_)
 have e4:W'.heap[w.heap.size+2]?=some (.cells #[.int .i64 n.id,.int .i64 n.par,.slice a_k n.kids.length aK,.int .i64 n.next,.slice iH n.pu.length bq,.slice dP n.out.length aO,.slice (some ⟨G.s,0,none⟩) n.seen.length aL,.int .i64 n.old,.slice fA n.reqs.length aT] 30 (0,0)):=by
  rw [hW'];exact GR.setW_blk [.int .i64 n.id,.int .i64 n.par,.slice a_k n.kids.length aK,.int .i64 n.next,.slice iH n.pu.length bq,.slice dP n.out.length aO,.slice (some ⟨G.s,0,none⟩) n.seen.length aL,.int .i64 n.old,.slice fA n.reqs.length aT] (o:=0) (xs:=[.int .i64 0,.int .i64 0,.slice none 0 0,.int .i64 0,.slice none 0 0,.slice none 0 0,.slice none 0 0,.int .i64 0,.slice none 0 0]) lN
 have fu:aC [w.heap.size+2] W7 W':=by
  rw [hW'];exact aM [.int .i64 n.id,.int .i64 n.par,.slice a_k n.kids.length aK,.int .i64 n.next,.slice iH n.pu.length bq,.slice dP n.out.length aO,.slice (some ⟨G.s,0,none⟩) n.seen.length aL,.int .i64 n.old,.slice fA n.reqs.length aT] W7 0
 have UQ:w.heap.size+2≠gi:=by omega
 have Pm:=hide (Xp.kc (k:=9) (KC.keeps fu (fun x hx=>by have:x=w.heap.size+2:=(by simpa using hx);rw [this];exact Ac _ (by omega) UQ)) (by omega))
 have HAT:Hid (∀W'',Out c w W' W''→RM W'' (⟨a_k,iH,dP,(some ⟨G.s,0,none⟩),fA,aK,bq,aO,aL,aT⟩:bQ) (bn n (n.seen.set i ⟨mF,bY s0 mL,aQ s0 mL⟩))):=fun W'' ho=>by
  obtain⟨F,hk,hF⟩:=ho
  have hold:=(Pm.kc (k:=9) (KC.keeps hk (fun x hx=>HCO x (hF x hx).1 (hF x hx).2)) (by omega))
  have ho:Out c w W' W'':=⟨F,hk,hF⟩
  exact hold.rm
 have Cr:Hid (∀W'',Out c w W' W''→GR.At je 7 W'' (some ⟨ab,0,none⟩) [⟨2,n.id,mF,mI,0,ByteArray.empty,0⟩]):=fun W'' ho j hj=>L9 (fu.obj Rp (fun hm=>by simp at hm;omega)) ho (by omega) j hj
 have lH:Hid (Below B w W'):=acL.trans (fu.below (fun x hx=>by have:x=w.heap.size+2:=(by simpa using hx);omega) (by have h1:=aA lN;omega));have qg:=hide (Apart.keeps (c:=c) acS (by have h1:=aA lN;omega) fu (fun x hx=>by have:x=w.heap.size+2:=(by simpa using hx);omega));obtain⟨x0,x1,x2,x3,x4,x5,x6,x7,x8⟩:=nine e4;clear hW' e4 fu
 first
  |exact bodyPost_ret (v:= .tuple #[.agg #[.int .i64 n.id,.int .i64 n.par,.slice a_k n.kids.length aK,.int .i64 n.next,.slice iH n.pu.length bq,.slice dP n.out.length aO,.slice (some ⟨G.s,0,none⟩) n.seen.length aL,.int .i64 n.old,.slice fA n.reqs.length aT],.slice (some ⟨ab,0,none⟩) 1 1,.int .i64 0]) (by simp[results,Tryz.results97,go_sem,x0,x1,x2,x3,x4,x5,x6,x7,x8]) rfl ⟨(⟨a_k,iH,dP,(some ⟨G.s,0,none⟩),fA,aK,bq,aO,aL,aT⟩:bQ),(some ⟨ab,0,none⟩),⟨1,by simp[fU,fO,bn]⟩,HAT,Cr,lH,qg⟩
  |exact bodyPost_ret (v:= .tuple #[.agg #[.int .i64 n.id,.int .i64 n.par,.slice a_k n.kids.length aK,.int .i64 n.next,.slice iH n.pu.length bq,.slice dP n.out.length aO,.slice (some ⟨G.s,0,none⟩) n.seen.length aL,.int .i64 n.old,.slice fA n.reqs.length aT],.slice (some ⟨ab,0,none⟩) 1 1,.int .i64 0]) (by simp[results,Tryz.results97,go_sem,x0,x1,x2,x3,x4,x5,x6,x7,x8]) rfl ⟨(⟨a_k,iH,dP,(some ⟨G.s,0,none⟩),fA,aK,bq,aO,aL,aT⟩:bQ),(some ⟨ab,0,none⟩),1,by simp[fU,fO,bn],HAT,Cr,lH,qg⟩):P:=h
theorem adr(h:P:=by
 go_wp2_with fail;refine wp_region_quiet_lit (by kernel_rfl) (by kernel_rfl) ?_;repeat (first|go_big_quiet_step ((first|(go_at_call 25;exact nu _ _ hks hkb' _ _)|(go_at_call_of 22 (IntKind.i64.wrap (pf+ps));exact fI _ _ g4 _ _)|(go_at_call_of 22 (pf+ps);exact fI _ _ g5 _ _)|(go_at_call_of 22 pm;exact fI _ _ g1 _ _)|(go_at_call_of 22 pf;exact fI _ _ g2 _ _)|(go_at_call_of 22 ps;exact fI _ _ g3 _ _)))|quiet_step ((first|(go_at_call 25;exact nu _ _ hks hkb' _ _)|(go_at_call_of 22 (IntKind.i64.wrap (pf+ps));exact fI _ _ g4 _ _)|(go_at_call_of 22 (pf+ps);exact fI _ _ g5 _ _)|(go_at_call_of 22 pm;exact fI _ _ g1 _ _)|(go_at_call_of 22 pf;exact fI _ _ g2 _ _)|(go_at_call_of 22 ps;exact fI _ _ g3 _ _))))
 refine wpQuiet_nil ?_;intro _ hw';obtain⟨nq,hw''⟩:=hw';subst hw'';go_wp2_with fail;go_ret;exact⟨aD HBAD.symm,(fG.alloc fG.size _).trans ⟨rfl,rfl,rfl,Nat.le_refl _,fun _ _=>rfl⟩⟩):P:=h
theorem aqu(h:P:=by
 try rw [hx2]
 refine aF 5 rfl (by kernel_rfl) (by rfl) ?_;go_simp;refine (Gu ⟨#[97]⟩ (1 + x) w4 (by decide) ⟨by omega, by omega⟩).mono ?_;rintro e w5 ⟨v5, RL, b5, rfl, hRL, hRK, hown5, hb5⟩;obtain ⟨a5, cp5, rfl, _⟩ := GR.own_at aV hown5;have xQ := hide hown5;have jd := hide hb5;have HRK := hide hRK;have El := hide ((ah uM).draw ((ah uM).cur.keep_below hb5) (Keeps.of_below hb5));clear hown5 hb5 hRK d0 d1 d2 d3 d4 d5 d6 d7 d8;obtain ⟨e0, e1, e2, e3, e4, e5, e6, e7, e8⟩ := nine (ah El).own;have f4 := aj (ah El).own 4;go_simp;refine eO 6 rfl (by kernel_rfl) (by kernel_rfl) (by kernel_rfl) (fun _ _ _ _ h => h) (fun K hK => ?_);open akR in exact Om):P:=h
theorem ads(h:P:=by
 open aok in exact aa1):P:=h
theorem IY(h:P:=by
 clear HR;clear hk hn ho;go_enter Tryz.func57,Tryz.ntmps57
 go_wp2_with (first|(go_at_call_of 25 k;refine(HK _).mono ?_;rintro e w1 ⟨rfl,rfl⟩)|(go_at_call_of 21 n;refine(HN _).mono ?_;rintro e w1 ⟨rfl,rfl⟩)|(go_at_call_of 21 no;refine(HO _).mono ?_;rintro e w1 ⟨rfl,rfl⟩))
 all_goals
  go_ret
  refine⟨aD ?_,ay w _⟩
  rw [ah HP]
  simp[kN, *]):P:=h
theorem aqv(h:P:=by
 rw [hR];have hd:decide (o.no≤n.old)=false:=decide_eq_false hc;open alV in exact SN):P:=h
theorem LY(h:P:=by
 open alX in exact aal):P:=h
theorem aqw(h:P:=by
 open alE in exact aaf):P:=h
theorem aqx(h:P:=by
 go_simp;refine aF 8 rfl (by kernel_rfl) (by rfl) ?_;refine Lib.wp_append_run _ (.tmp 89) (.tmp 95) 28 28 rfl _ _ (by simp [Act.eval]) (by simp [Act.eval]) _ _ hrun ?_;go_simp;refine eO 9 rfl (by kernel_rfl) (by kernel_rfl) (by kernel_rfl) (fun _ _ _ _ h => h) (fun K hK => ?_);open asK in exact Ya3):P:=h
theorem aqy(h:P:=by
 go_wp2_with fail;go_quiet (fail);have UO:(wr.drewN nq).ownsRow W2.heap.size 55 4 (.slice a (FL k).length cp) (FL k).length (GR.flat aU (FL k)):=ah HO;have hnk:=ah HNK;obtain⟨hi,hz0,hz1,hz2⟩:=ah HI;have hwb:W2.heap.size≤wr.heap.size:=iJ.size;go_wp2_with (at_builtin;refine wpList_append_own _ rfl _ _ 26 rfl W2.heap.size 55 i0 (.agg #[.int .i64 0,.int .i64 0,.string ByteArray.empty,.int .i64 0]) 4 40 Tryz.underlying26 hi hz0 hz1 hz2 rfl (by decide) _ _ _ rfl (UO.alloc _) ⟨wr.heap.size,0,none⟩ 1 1 (aU ⟨si,st,sk,sn⟩) rfl rfl ?c1 ?c2 ?c3 ?c4 ?c5 ?_)
 case c1=>exact World.news_of_block (heap_alloc_new (wr.drewN nq) _)
 case c2=>exact qp _
 case c3=>unfold maxLen;omega
 case c4=>omega
 case c5=>exact Nat.le_trans hwb (ay (wr.drewN nq) _).size
 intro v' w5 hown' hgrow _;obtain⟨an,cn,hv,_⟩:=GR.own_at (enc:=aU) (sz:=4) (l:=FL k++[⟨si,st,sk,sn⟩]) cu (by rw [List.length_append,gN];exact hown');rw [List.length_append] at hv;have hv':v'= .slice an ((FL k).length+1) cn:=hv;clear hv;subst hv'
 have xQ:Hid (w5.ownsRow W2.heap.size 55 4 (.slice an FK.length cn) FK.length (GR.flat aU FK)):=by
  unfold Hid;rw [ah HX,List.length_append,gN];exact hown'
 have jd:Hid (Below W2.heap.size W2 w5):=(iJ.trans (Below.trans (b:=wr.drewN nq) ⟨rfl,rfl,rfl,Nat.le_refl _,fun _ _=>rfl⟩ ((ay (wr.drewN nq) (.cells #[.int .i64 si,.int .i64 st,.string sk,.int .i64 sn] 55)).mono hwb))).trans ⟨hgrow.os,hgrow.tape,hgrow.output,hgrow.size,fun x hx=>hgrow.block x (Nat.lt_of_lt_of_le hx (Nat.le_trans hwb (ay (wr.drewN nq) _).size)) (fun e=>by have:=qO UO e.symm;omega)⟩;clear hown' hgrow UO hi hz0 hz1 hz2 c0 c1 c2 c3 c4 c5 c6 c7 c8 m0 m1 m2 m3 m4 m5 m6 s0 s1 s2 s3;go_wp2_with fail;go_roundw
 case rel=>exact⟨k+1,an,cn,by omega,by rw [ah HX0,ah HX,List.length_append];rfl,by go_num,by rw [ah HX0];exact xQ,jd⟩
 case measure=>simp[intOf];omega):P:=h
theorem aqz(h:P:=by
 go_wp2_with fail;go_loopw [10] (fun i wr=>∃j q:Nat,j≤n.reqs.length∧i= .int .i64 j∧(∀x (hx:x < n.reqs.length),x < j→n.reqs[x].no < no)∧wr=W4.drewN q) (fun i _=>n.reqs.length - (intOf i).toNat)
 case atStart=>exact⟨0,0,Nat.zero_le _,rfl,fun x hx h=>(by omega),rfl⟩
 case round=>
  obtain⟨j,q,hj,rfl,hlo,rfl⟩:=hrel;have RI:=hide hlo;clear hlo;by_cases hlt:j < n.reqs.length
  ·obtain⟨g',off',e0,hg',y0,_,_,_⟩:=iD.four HA4 j hlt;cases e0
   rw [Nat.zero_add] at y0
   have HUP:=hide (fun(h:no≤n.reqs[j].no)=>Gl (l:=n.reqs) (no:=no) Cu (i:=j) hj RI (fun x hx hjx=>by
    rcases Nat.lt_or_eq_of_le hjx with h1|h1
    ·have:=List.pairwise_iff_getElem.1 Cu j x hlt hx h1;omega
    ·subst h1;exact h))
   have RV:=hide (fun(h:n.reqs[j].no < no)=>show∀x (hx:x < n.reqs.length),x < j+1→n.reqs[x].no < no from fun x hx h2=>by
    by_cases e:x=j
    ·subst e;exact h
    ·exact RI x hx (by omega))
   generalize n.reqs[j].no=rn at *;by_cases hcmp:rn < no
   ·go_wp2_with fail;go_quiet (fail);go_wp2_with fail;go_roundw
    case rel=>exact⟨j+1,_,by omega,by go_num,RV hcmp,rfl⟩
    case measure=>simp[intOf];omega
   ·have UE:decide (rn < no)=false:=decide_eq_false hcmp;have HJ:=hide (HUP (by omega));go_wp2_with fail;go_quiet (fail);go_wp2_with fail;go_meet
    case rel=>exact⟨by rw [ah HJ],⟨rfl,rfl,rfl,Nat.le_refl _,fun _ _=>rfl⟩⟩
  ·have hje:j=n.reqs.length:=by omega
   subst hje;have HJ:=hide (Gl (l:=n.reqs) (no:=no) Cu (i:=n.reqs.length) (Nat.le_refl _) RI (fun x hx hjx=>by omega));have UE:decide ((n.reqs.length:Int) < (n.reqs.length:Int))=false:=by simp
   go_wp2_with fail;go_quiet (fail);go_wp2_with fail;go_meet
   case rel=>exact⟨by rw [ah HJ],⟨rfl,rfl,rfl,Nat.le_refl _,fun _ _=>rfl⟩⟩):P:=h
theorem adt(h:P:=by
 go_wp2_with fail;go_loopw [7] (fun j wr=>∃x q:Nat,x≤i∧j= .int .i64 x∧wr=W0.drewN q) (fun j _=>i - (intOf j).toNat)
 case atStart=>exact⟨0,0,Nat.zero_le _,rfl,rfl⟩
 case round=>
  obtain⟨x,q,hx,rfl,rfl⟩:=hrel;have hxl:x < n.seen.length:=by omega
  obtain⟨b',c',e',hg',⟨u0,_,_⟩,_,_⟩:=fq.three Xo.s x hxl;by_cases hxi:x=i
  ·subst hxi;rw [hs0,hfi] at u0;have hnn:(mF != mF)=false:=by simp
   go_wp2_with fail;go_quiet (fail);go_wp2_with fail;go_meet
   case rel=>exact⟨rfl,⟨rfl,rfl,rfl,Nat.le_refl _,fun _ _=>rfl⟩⟩
  ·have hne:=hbef x hxl (by omega);generalize n.seen[x].f=fx at *;have hnn:(fx != mF)=true:=by simpa using hne
   go_wp2_with fail;go_quiet (fail);go_wp2_with fail;go_roundw
   case rel=>exact⟨x+1,_,by omega,by go_num,rfl⟩
   case measure=>simp[intOf];omega):P:=h
theorem aqA(h:P:=by
 by_cases hk:k.toList=[]
 case' neg=>
  go_wp2_with fail
  go_ret
  exact⟨aD (by rw [ah HP];simp[kN,hk]),iJ⟩
 by_cases hn:n=0
 case' neg=>
  have hn':¬(0:Int)=n:=fun e=>hn e.symm
  go_wp2_with fail
  go_ret
  exact⟨aD (by rw [ah HP];simp[kN,hk,hn]),iJ⟩
 subst hn;by_cases hmK:mK=0
 case' neg=>
  have au6:¬(0:Int)=mK:=fun e=>hmK e.symm
  go_wp2_with fail
  go_ret
  exact⟨aD (by rw [ah HP];simp[kN,hk,hmK]),iJ⟩
 subst hmK;by_cases hmF:mF=0
 case' neg=>
  have au4:¬(0:Int)=mF:=fun e=>hmF e.symm
  go_wp2_with fail
  go_ret
  exact⟨aD (by rw [ah HP];simp[kN,hk,hmF]),iJ⟩
 subst hmF;by_cases hmT:mT=0
 case' neg=>
  have au9:¬(0:Int)=mT:=fun e=>hmT e.symm
  go_wp2_with fail
  go_ret
  exact⟨aD (by rw [ah HP];simp[kN,hk,hmT]),iJ⟩
 subst hmT;by_cases hmI:mI=0
 case' neg=>
  have au5:¬(0:Int)=mI:=fun e=>hmI e.symm
  go_wp2_with fail
  go_ret
  exact⟨aD (by rw [ah HP];simp[kN,hk,hmI]),iJ⟩
 subst hmI;by_cases hmL:mL=0
 case' neg=>
  have au7:¬(0:Int)=mL:=fun e=>hmL e.symm
  go_wp2_with fail
  go_ret
  exact⟨aD (by rw [ah HP];simp[kN,hk,hmL]),iJ⟩
 subst hmL;by_cases hmk:mk.toList=[]
 case' neg=>
  go_wp2_with fail
  go_ret
  exact⟨aD (by rw [ah HP];simp[kN,hk,hmk]),iJ⟩
 by_cases hmN:mN=0
 case' neg=>
  have au8:¬(0:Int)=mN:=fun e=>hmN e.symm
  go_wp2_with fail
  go_ret
  exact⟨aD (by rw [ah HP];simp[kN,hk,hmk,hmN]),iJ⟩
 subst hmN;go_wp2_with fail;go_ret;exact⟨aD (by rw [ah HP];simp[kN,hk,hmk]),iJ⟩):P:=h
theorem uN(h:P:=by
 exact⟨by rw [ah HV],below_regrown _ dq osq⟩):P:=h
theorem TH(h:P:=by
 intro k ok hk hki hun hno;refine hfree k ok hk hki ?_ hno;by_cases hjk:j=k
 ·subst hjk;exact hjun
 ·rw [getD_set_ne true hjk] at hun;exact hun):P:=h
theorem aqB(h:P:=by
 open ag1 in exact ade):P:=h
theorem aqC(h:P:=by
 rw [ah HD];clear HD hT;go_enter Tryz.func45,Tryz.ntmps45
 go_upto_region 1 with fail;refine gu (by kernel_rfl) ?_;show jq _ _ _ _ 18 (Array.replicate 18 false) _ _
 refine tk [0,1,2,3,4,5,6,7,8,9,10,11,12,13,14] ?_;iterate 15 (refine Rm (fun K hK=>?_);go_simp;refine hK _ ?_;clear hK K)
 refine kK ?_;refine vJ 15 rfl (by kernel_rfl) (by kernel_rfl) (by kernel_rfl) (fun _ _ _ _ h=>h) (fun K hK=>?_);go_simp
 first
  |(refine hK _ ?_;clear hK K)
  |(apply Exists.intro
    refine⟨fun _=>?_,hK _ ?_⟩
    (exact K9 _ (Rc _))
    clear hK K)
 refine tk [16,17] ?_;iterate 2 (refine Rm (fun K hK=>?_);go_simp;refine hK _ ?_;clear hK K)
 refine kK ?_;refine iO (by kernel_rfl) (fun z hz=>?_);have HZ:=hide ((ay w (.cells #[.int .i64 mK,.int .i64 mF,.int .i64 mT,.int .i64 mI,.int .i64 mL,.string mk,.int .i64 mN] 32)).trans (hz.mono (by simp)));clear hz y0 y1 y2 y3 y4 y5 y6 y7 y8 z1 z2 Rc;go_simp;go_wp2_with fail;go_ret;exact⟨rfl,HZ⟩):P:=h
theorem adu(h:P:=by
 by_cases hlow:s0.l < mL
 ·have hd:decide (s0.l < mL)=true:=decide_eq_true hlow;have HLW:=hide (show bY s0 mL=mL from if_pos hlow);go_wp2_with fail;go_meet
  case rel=>exact⟨rfl,by rw [ah HLW];exact bg Pw 1 _,aC.set _⟩
 ·have hd:decide (s0.l < mL)=false:=decide_eq_false hlow;have HLW:=hide (show bY s0 mL=s0.l from if_neg hlow);go_wp2_with fail;go_meet
  case rel=>exact⟨rfl,by rw [ah HLW];exact Pw,aC.refl _ _⟩):P:=h
theorem aqD(h:P:=by
 open aku in exact ZL):P:=h
theorem adv(h:P:=by
 rw [hW'];exact GR.setW_blk [.int .i64 n3.id,.int .i64 n3.par,.slice A2.k n3.kids.length A2.ck,.int .i64 n3.next,.slice A2.p n3.pu.length A2.cp,.slice A2.o n3.out.length A2.co,.slice A2.s n3.seen.length A2.cs,.int .i64 n3.old,.slice A2.r n3.reqs.length A2.cr] (o:=0) (xs:=[.int .i64 0,.int .i64 0,.slice none 0 0,.int .i64 0,.slice none 0 0,.slice none 0 0,.slice none 0 0,.int .i64 0,.slice none 0 0]) HR2):P:=h
theorem aqE(h:P:=by
 have hold:=(l7.kc (k:=9) ((KC.of_below tZ).trans (KC.out H9 ho)) (by omega));have hp:=(ah LA).out (w:=w) (by omega) ho;have hr:=(ah HLZ).out (w:=w) (by omega) ho
 have Yn:∀g',av.map (fun y=>y.block)=some g'→6 < newC w.heap.size 9 c g':=fun g' hg'=>by
  have h1:=hp.lo (kZ hp hg')
  rw [aW (by omega)]
  omega
 exact NQ.put hold hold _ _ rfl rfl rfl rfl (hp.lies aV).1 (fun g' hg' _=> .inr (Yn g' hg')) hold.o (fun y hy=> .inl (hold.co y hy)) hr (fun y hy=> .inr (by have h1:=hr.lo hy;rw [aW (by omega)];omega))
  (fun g' hg' _ h6=>⟨fun e=>by have:=hold.co g' e;omega,hp.ne hr (by decide) (kZ hp hg')⟩) (fun y hy h6=>by have:=hold.co y hy;omega)):P:=h
theorem aqF(h:P:=by
 open anL in exact IV):P:=h
theorem Ud(h:P:=by
 go_wp2_with fail;refine H.mono ?_;rintro e w1 ⟨a1,c1,g,hg,rfl,hblk,hb⟩;have HK:=hide hblk;have HB:=hide hb;clear hblk hb;go_wp2_with fail;go_ret2
 exact⟨_,_,g,hg,rfl,HK,HB⟩):P:=h
theorem adw(h:P:=by
 rw [hW'];exact GR.setW_below (by omega) [.int .i64 n3.id,.int .i64 n3.par,.slice A2.k n3.kids.length A2.ck,.int .i64 n3.next,.slice A2.p n3.pu.length A2.cp,.slice A2.o n3.out.length A2.co,.slice A2.s n3.seen.length A2.cs,.int .i64 n3.old,.slice A2.r n3.reqs.length A2.cr] (o:=0) (HB.trans (vR.keep.mono HB.size))):P:=h
theorem aqG(h:P:=by
 go_wp2_with fail;go_quiet (fail);go_wp2_with fail;go_roundw
 case rel => exact ⟨k + 1, _, by omega, by go_num, rfl⟩
 case measure => simp [intOf]; omega):P:=h
theorem adx(h:P:=by
 have HK:=hide (fun w1=>gJ k false w1 hk);cases hn:eU n
 ·have HN:=hide (fun w1=>aS n false w1 hn);have HP:=hide (show R=(decide (no=0)&&false&&false&&kN ⟨mK,mF,mT,mI,mL,mk,mN⟩) by rw [←ah HR];simp[cZ,hk,hn]);exact ads
 ·have HN:=hide (fun w1=>aS n true w1 hn);have HP:=hide (show R=(decide (no=0)&&false&&true&&kN ⟨mK,mF,mT,mI,mL,mk,mN⟩) by rw [←ah HR];simp[cZ,hk,hn]);exact ads):P:=h
theorem ady(h:P:=by
 refine wpQuiet_nil ?_;intro _ hw';obtain⟨⟨dq,osq⟩,hw''⟩:=hw';subst hw'';go_wp2_with fail;go_meet
 case rel=>exact uN):P:=h
theorem adz(h:P:=by
 open amd in exact aap):P:=h
theorem aqI(h:P:=by
 open afv in exact Pz):P:=h
theorem aqJ(h:P:=by
 have hil:i < l.length:=by simpa using hi'
 by_cases e:i=k
 ·subst e;refine⟨b,cc,?_,?_⟩
  ·rw [List.getElem_set_self,List.getElem?_set_self Li]
  ·rw [List.getElem_set_self];unfold jQ;rw [if_pos rfl];exact hi.keeps hkp (fun x hx=>by simpa using hgi x hx)
 ·obtain⟨b',c',ht,hi2⟩:=hr i hil;refine⟨b',c',?_,?_⟩
  ·rw [List.getElem_set_ne (by omega),List.getElem?_set_ne (by omega)];exact ht
  ·rw [List.getElem_set_ne (by omega)];unfold jQ;rw [if_neg e];exact hi2.keeps hkp (fun x hx=>by simpa using hg4 x (gM hil x hx))):P:=h
theorem adA(h:P:=by
 rw [hW'];exact KC.setW (o:=0) [.int .i64 n3.id,.int .i64 n3.par,.slice A2.k n3.kids.length A2.ck,.int .i64 n3.next,.slice A2.p n3.pu.length A2.cp,.slice A2.o n3.out.length A2.co,.slice A2.s n3.seen.length A2.cs,.int .i64 n3.old,.slice A2.r n3.reqs.length A2.cr] (vR.no.lo _ (by omega))):P:=h
theorem aqK(h:P:=by
 have hold:=(l7.kc (k:=9) ((KC.of_below tZ).trans (KC.out H9 ho)) (by omega));have hr:=(ah HLZ).out (w:=w) (by omega) ho
 exact NQ.put hold hold _ _ rfl rfl rfl rfl hold.p.at (fun g' hg' hp'=> .inl (hold.cpB hold g' hg' hp')) hold.o (fun y hy=> .inl (hold.co y hy)) hr (fun y hy=> .inr (by have h1:=hr.lo hy;rw [aW (by omega)];omega))
  (fun g' hg' hp' h6=>by have:=hold.cpB hold g' hg' hp';omega) (fun y hy h6=>by have:=hold.co y hy;omega)):P:=h
theorem adB(h:P:=by
 obtain⟨g,off,e,hg,hc⟩:=h i hi;refine⟨g,off,e,hg,?_,?_,?_,?_⟩
 ·simpa using hc 0 (by omega)
 ·simpa [Nat.add_assoc] using hc 1 (by omega)
 ·simpa [Nat.add_assoc] using hc 2 (by omega)
 ·simpa [Nat.add_assoc] using hc 3 (by omega)):P:=h
theorem aqL(h:P:=by
 go_wp2
 go_ret;refine ⟨rfl, ?_, (Below.refl _ _).alloc (Nat.le_refl _) _⟩
 exact ⟨_, len, cap, 0, x, heap_alloc_new w _, Nat.zero_le _, hlen, fun j hj => by
   obtain ⟨b', off', z', e, hb', z0', z1', hz'⟩ := ah D9 j hj
   exact ⟨b', off', z', e, hb', z0', z1', by rw [World.cell?_alloc_lt _ _ ⟨b', off' + j, none⟩ hb']; exact hz'⟩⟩):P:=h
theorem aui(h:P:=by
 rw [hW'];exact GR.setW_blk [.int .i64 n.id,.int .i64 n.par,.slice a_k n.kids.length aK,.int .i64 n.next,.slice iH n.pu.length bq,.slice dP n.out.length aO,.slice dS n.seen.length aL,.int .i64 n.old,.slice (some ⟨g,off,none⟩) n.reqs.length aT] (o:=0) (xs:=[.int .i64 0,.int .i64 0,.slice none 0 0,.int .i64 0,.slice none 0 0,.slice none 0 0,.slice none 0 0,.int .i64 0,.slice none 0 0]) qb):P:=h
theorem auj(h:P:=by
 rw [Rk];exact hW5.W.keeps (aM [.int .i64 mF,.int .i64 (bY s0 mL),.slice (some ⟨gi,0,none⟩) (aQ s0 mL).length Jc] _ (i*3)) (fun x hx hm=>by have h1:=(fD hx).1;simp at hm;omega)):P:=h
theorem auk(h:P:=by
 rw [hW'];exact GR.setW_blk [.int .i64 n.id,.int .i64 n.par,.slice A.k n.kids.length A.ck,.int .i64 n.next,.slice A.p n.pu.length A.cp,.slice A.o n.out.length A.co,.slice A.s n.seen.length A.cs,.int .i64 n.old,.slice A.r n.reqs.length A.cr] (o:=0) (xs:=[.int .i64 0,.int .i64 0,.slice none 0 0,.int .i64 0,.slice none 0 0,.slice none 0 0,.slice none 0 0,.int .i64 0,.slice none 0 0]) qb):P:=h
theorem aqM(h:P:=by
 constructor
 ·intro hf;have e:l=l.take i++l[i]::l.drop (i+1):=by rw [←List.drop_eq_getElem_cons hi,List.take_append_drop]
  have h2:(l.take i++l[i]::l.drop (i+1)).find? f=some l[i]:=by
   rw [List.find?_append,h,List.find?_cons,hf];rfl
  rw [←e] at h2;exact h2
 ·intro hf;rw [List.take_succ_eq_append_getElem hi,List.find?_append,h,List.find?_cons,hf];rfl):P:=h
theorem adC(h:P:=by
 have HN:=hide (fun w1=>aS n false w1 hn);have HP:=hide (show R=(decide (no=0)&&true&&false&&kN ⟨mK,mF,mT,mI,mL,mk,mN⟩) by rw [←ah HR];simp[cZ,hk,hn]);exact ads):P:=h
theorem aul(h:P:=by
 rw [Rk];exact((aC.set _).mono (by simp)).trans ((aM [.int .i64 mF,.int .i64 (bY s0 mL),.slice (some ⟨gi,0,none⟩) (aQ s0 mL).length Jc] _ (i*3)).mono (by simp))):P:=h
theorem PI(h:P:=by
 have h:=ah kQ;rw [List.take_length] at h;exact mg.trans h):P:=h
theorem aqN(h:P:=by
 have h1:=(bf hok).1;have h2:=(bf hok).2.2.1;have h3:=sG h1;rw [qR h1,Bool.and_eq_true,decide_eq_true_eq] at h2;have h4:=congrArg List.length h2.1;rw [List.length_map,lY] at h4;unfold dx at h1;simp only[Bool.and_eq_true,decide_eq_true_eq] at h1;split at h3<;>omega):P:=h
theorem XQ(h:P:=by
 obtain⟨T,hT,hl,_⟩:=Rf.no.s;have:=(hT i (by rw [hl,ah HSL];exact hi)).2.2 2 (by omega);exact this.2):P:=h
theorem aqO(h:P:=by
 obtain⟨e,hg,hc⟩:=h i hi;exact⟨e,hg,⟨by simpa using(hc 0 (by omega)).1,by simpa using(hc 1 (by omega)).1,by simpa using(hc 2 (by omega)).1,by simpa using(hc 3 (by omega)).1⟩,by simpa using(hc 0 (by omega)).2,(hc 1 (by omega)).2,(hc 2 (by omega)).2,(hc 3 (by omega)).2⟩):P:=h
theorem aum(h:P:=by
 rcases Nat.lt_or_ge G.s B with h1|h1
 ·have h2:=l7.lo G.s h1;rw [dR (by omega),hc4] at h2;omega
 ·exact h1):P:=h
theorem aun(h:P:=by
 rcases ru.2 with⟨h1,_⟩|⟨g1,avN,avP,hv1,_,_,awg,_⟩
 ·simp at h1
 ·simp only[Value.slice.injEq] at hv1;omega):P:=h
theorem auo(h:P:=by
 rw [hW'];exact aM [.int .i64 n.id,.int .i64 n.par,.slice A.k n.kids.length A.ck,.int .i64 n.next,.slice A.p n.pu.length A.cp,.slice A.o n.out.length A.co,.slice A.s n.seen.length A.cs,.int .i64 n.old,.slice A.r n.reqs.length A.cr] (W2.alloc (.cells #[] 32)) 0):P:=h
theorem aqP(h:P:=by
 obtain ⟨g', off, e, hl, _⟩ := hr.p 0 hp;have hx' : A.p.map (fun y => y.block) = some x := hx;have := hr.cp x hx' hp;have e2 : x = g' := by rw [e] at hx'; simpa using hx'.symm
 rw [e2] at this ⊢;rw [sm g' hl (by omega)]; exact this):P:=h
theorem aup(h:P:=by
 rw [hW'];exact aM [.int .i64 n.id,.int .i64 n.par,.slice a_k n.kids.length aK,.int .i64 n.next,.slice iH n.pu.length bq,.slice dP n.out.length aO,.slice dS n.seen.length aL,.int .i64 n.old,.slice (some ⟨g,off,none⟩) n.reqs.length aT] W1 0):P:=h
theorem aqQ(h:P:=by
 go_wp2_with (go_at_call 23;first|(refine(pz _ _ _ _ ?_ ?_).mono ?_;omega;omega;rintro e w' ⟨rfl,rfl⟩)|(refine(su _ _ _ _ ?_).mono ?_;omega;rintro e w' ⟨rfl,rfl⟩))
 go_ret;exact⟨aD (by rw [ah HF];simp;omega),rfl⟩):P:=h
theorem aqR(h:P:=by
 open ai6 in exact Fj):P:=h
theorem aqS(h:P:=by
 clear HR;clear ho;go_enter Tryz.func57,Tryz.ntmps57
 go_wp2_with (first|(go_at_call_of 21 no;refine(HO _).mono ?_;rintro e w1 ⟨rfl,rfl⟩))
 all_goals
  go_ret
  refine⟨aD ?_,ay w _⟩
  rw [ah HP]
  simp[kN, *]):P:=h
theorem XR(h:P:=by
 obtain⟨_,_,e0,_⟩:=fq.three Eo.wk.no.s i (by rw [ah HSL];exact hi);exact e0):P:=h
theorem aqT(h:P:=by
 rw [hW'];exact aM [.int .i64 n.id,.int .i64 n.par,.slice A.k n.kids.length A.ck,.int .i64 n.next,.slice A.p n.pu.length A.cp,.slice A.o n.out.length A.co,.slice A.s n.seen.length A.cs,.int .i64 n.old,.slice A.r n.reqs.length A.cr] W0 0):P:=h
theorem auq(h:P:=by
 by_cases hcz:aT=pos
 ·refine⟨_,rfl,?_⟩;rw [show n.reqs.drop pos=[] by apply List.drop_eq_nil_of_le;omega];exact GR.at_nil _ _
 ·refine⟨_,rfl,?_⟩;rw [if_neg hcz];exact GR.At.drop HA5 pos):P:=h
theorem aqU(h:P:=by
 have hw:Region.wanted o (yielded ops a.tmps)=true:=by simp[Region.wanted,hgd]
 rw [if_pos hw];exact wp_append_own w s x t ho base e i z size bytes ht hi hz hsize hby hzs hsz v n xs hs hown ad m c news hx hl hnews h1 h63 hbytes hbase h):P:=h
theorem aqV(h:P:=by
 have hke : k = l.length := by omega
 subst hke;have hnlt : decide ((l.length : Int) < (l.length : Int)) = false := by simp
 go_wp2_with fail;go_ret;exact ⟨rfl, mD w q⟩):P:=h
theorem adD(h:P:=by
 cases fuel with
 |zero=>exact⟨h.1,fun y hy=>h.2 y (Ge.trans hx hy)⟩
 |succ fuel=>exact fun y hy=>h y (Ge.trans hx hy)):P:=h
theorem aqW(h:P:=by
 intro vs;induction vs with
 |nil=>intro w o _;rfl
 |cons v vs ih=>
  intro w o h
  rw [List.length_cons] at h
  exact(ih (w.setCell ⟨g,o,none⟩ v) (o+1) (by omega)).trans (World.cell?_setCell_other _ _ _ _ (by simp<;>omega))):P:=h
theorem aqX(h:P:=by
 unfold iC at h;rcases List.mem_append.1 h with h|h
 ·exact .inr ((List.takeWhile_sublist _).mem h)
 ·rcases List.mem_cons.1 h with h|h
  ·exact .inl h
  ·exact .inr ((List.dropWhile_sublist _).mem (Ch l p.k q h))):P:=h
theorem XT(h:P:=by
 simp only [List.length_append, List.length_cons, List.length_nil];omega):P:=h
theorem aqY(h:P:=by
 have hm:l[i]∈oW l key:=by
  rw [head_take];exact List.mem_take_iff_getElem.2 ⟨i,by omega,rfl⟩
 have:=wE hm;rw [e] at this;exact absurd this (List.lt_irrefl _)):P:=h
theorem aqZ(h:P:=by
 clear eP;refine wp_region_quiet_below (by kernel_rfl) (by kernel_rfl) ?_;repeat (first|go_big_quiet_step ((first|(go_at_call_of 23 si;exact a1 _ _)|(go_at_call 25;exact a2 _ _)|(go_at_call 21;exact a3 _ _)|(go_at_call_of 23 st;exact a4 _ _)))|quiet_step ((first|(go_at_call_of 23 si;exact a1 _ _)|(go_at_call 25;exact a2 _ _)|(go_at_call 21;exact a3 _ _)|(go_at_call_of 23 st;exact a4 _ _))))
 exact ady):P:=h
theorem ara(h:P:=by
 clear eP;refine wp_region_quiet_below (by kernel_rfl) (by kernel_rfl) ?_;repeat (first|go_big_quiet_step ((first|(go_at_call 23;exact a1 _ _)|(go_at_call 24;exact a2 _ _)|(go_at_call 25;exact a3 _ _)|(go_at_call 21;exact a4 _ _)))|quiet_step ((first|(go_at_call 23;exact a1 _ _)|(go_at_call 24;exact a2 _ _)|(go_at_call 25;exact a3 _ _)|(go_at_call 21;exact a4 _ _))))
 exact ady):P:=h
theorem arb(h:P:=by
 clear eP;refine wp_region_quiet_below (by kernel_rfl) (by kernel_rfl) ?_;repeat (first|go_big_quiet_step ((first|(go_at_call 24;exact cN _ _)|(go_at_call 21;exact cS _ _)))|quiet_step ((first|(go_at_call 24;exact cN _ _)|(go_at_call 21;exact cS _ _))))
 exact ady):P:=h
theorem ard(h:P:=by
 have HP:Hid (TT=false):=ah HBAD (by rw [ah xS,hbv];rfl);subst hbv;clear HBAD fP eP mg xS;go_wp2_with fail;go_ret;exact⟨aD HP.symm,EU⟩):P:=h
theorem arf(h:P:=by
 go_wp2_with fail;refine HKP.mono ?_;rintro e wz ⟨rfl,A5,G5,c5,hfin⟩;have zI:=hide hfin;clear hfin;go_wp2_with fail;go_ret;rw [ah HAD];exact⟨rfl,A5,G5,c5,zI⟩):P:=h
theorem arh(h:P:=by
 go_wp2_with fail;go_quiet (fail);go_wp2_with fail;go_meet
 case rel=>exact⟨by rw [←ah Ai,ah HJ],⟨rfl,rfl,rfl,Nat.le_refl _,fun _ _=>rfl⟩⟩):P:=h
theorem ari(h:P:=by
 subst ej;rw [List.getElem_append_right (Nat.le_refl _)];simp only [Nat.sub_self, List.getElem_cons_zero, List.length_append, List.length_cons, List.length_nil];omega):P:=h
theorem arj(h:P:=by
 intro x hx;rw [hr];refine⟨fun h=>(by cases h),fun j hj=>?_⟩;obtain rfl:j=i:=by simpa using hj
 refine⟨fun e=>absurd e hiE,fun _=>?_⟩;unfold wpOp;simp only[hi];rw [if_pos hw];exact .inl (h x hx)):P:=h
theorem XU(h:P:=by
 go_wp2_with fail
 all_goals
  go_ret
  exact⟨by simp[*],ay w _⟩):P:=h
theorem ark(h:P:=by
 subst hbv;clear HBAD fP eP mg xS;go_wp2_with fail;go_roundw
 case rel=>exact⟨k+1,by omega,by go_num,HG,acN,EU⟩
 case measure=>simp[intOf];omega):P:=h
theorem PK(h:P:=by
 go_ret;exact⟨aD HP.symm,ay w _⟩):P:=h
theorem arl(h:P:=by
 have h2I:¬(40:Int)≤(n.out.length:Int):=by omega
 have q2:decide ((40:Int)≤(n.out.length:Int))=false:=by simpa using h2I
 have q3:decide ((1000000000:Int)≤n.next)=true:=by simpa using h3
 exact Za0):P:=h
theorem adE(h:P:=by
 rcases Nat.lt_or_ge g w.heap.size with h'|h'
 ·exact h'
 ·rw [Array.getElem?_eq_none h'] at h;cases h):P:=h
theorem arn(h:P:=by
 exact⟨e,Nat.lt_of_lt_of_le hg hk.size,fun j hj=>⟨(World.cell?_of_block (w:=w) (hk.block g hg hne)).trans (hc j hj).1,(World.frozen?_of_block (w:=w) (hk.block g hg hne)).trans (hc j hj).2⟩⟩):P:=h
theorem Ue(h:P:=by
 repeat (refine Below.setNew ?_ (by omega))
 exact HB1):P:=h
theorem aur(h:P:=by
 rw [Hy];exact((show rT aJ 4 (w.heap.size+3) wc (some ⟨gv,1*4,none⟩) IT from⟨HTA,fun g off e=>by cases e;exact avq⟩).keeps (aC.set _) (fun x hx=>by simp at hx;omega)).1):P:=h
theorem aro(h:P:=by
 obtain⟨g',off',e,hg',hc⟩:=hat i hi;cases e
 refine⟨rfl,hg',fun j hj=>⟨?_,?_⟩⟩
 ·have:=hc j hj;rwa [Nat.zero_add] at this
 ·unfold World.frozen?;rw [hblk];simp):P:=h
theorem adF(h:P:=by
 rintro e w' ⟨rfl,A',G',c',hW'⟩;exact⟨rfl,A',G',c',v,by rw [List.append_nil];exact hW'⟩):P:=h
theorem arp(h:P:=by
 generalize l[k]=y at *;go_wp2_with fail;go_round
 case rel=>exact⟨k+1,by omega,by go_num,by rw [ah HS,ah HN];rfl⟩
 case measure=>simp[intOf];omega):P:=h
theorem aus(h:P:=by
 obtain⟨g,rest,e,hb,_⟩:=wW Ag.r (show 0 < n.reqs.length by omega);exact⟨g,e,hb,fun x=>by rw [show fA=some ⟨g,0,none⟩ from e];simp[Value.ownBlock,eq_comm]⟩):P:=h
theorem TG(h:P:=by
 go_ret;exact⟨aD HN.symm,ay w _⟩):P:=h
theorem aby(h:P:=by
 rw [Below.heap_setCell _ _ _ _ hkn',hg.block k (by simp;omega) (fun e=>by have:=hvb k e.symm;omega),Below.heap_alloc _ _ _ (by omega)];exact h.keep.block k hk hkn):P:=h
theorem abz(h:P:=by
 go_wp2_with fail;exact bodyPost_ret (v:= .tuple #[tK ⟨0,F,T,I,L,k,N⟩,.bool false]) (by simp[results,Tryz.results102,go_sem,tK]) rfl ⟨by rw [ah HP],kD⟩):P:=h
theorem abA(h:P:=by
 go_wp2_with fail;exact bodyPost_ret (v:= .tuple #[tK ⟨2,F,T,I,L,k,N⟩,.bool false]) (by simp[results,Tryz.results102,go_sem,tK]) rfl ⟨by rw [ah HP],kD⟩):P:=h
theorem abB(h:P:=by
 rw [ej,←hf,hu] at h2;injection e with e
 subst e;have ea:(⟨g,off,none⟩:Addr).add j=⟨g,off+j,none⟩:=by unfold Addr.add;split<;>simp_all
 rw [ea];exact h2):P:=h
theorem abC(h:P:=by
 have h2:=jK.co x h1;rcases hm' with h3|h3
 ·rw [aW (by omega)] at h2;cases h2
 ·rw [dR h3.1] at h2;omega):P:=h
theorem abD(h:P:=by
 exact⟨e,Nat.lt_of_lt_of_le hg hs,fun j hj=>⟨(World.cell?_of_block (w:=w) hbx).trans (hc j hj).1,(World.frozen?_of_block (w:=w) hbx).trans (hc j hj).2⟩⟩):P:=h
theorem abE(h:P:=by
 intro vs;induction vs with
 |nil=>intro w o;rfl
 |cons v vs ih=>intro w o;exact(ih (w.setCell ⟨g,o,none⟩ v) (o+1)).trans (by rw [World.frozen?_setCell])):P:=h
theorem abF(h:P:=by
 have h:=ah jr k hlt;have h2:=ah kQ;rw [←ah HY] at h;exact h.trans (by rw [show(fun s t:Int=>gU s t)=gU from rfl,h2];rfl)):P:=h
theorem OD(h:P:=by
 have:=ready_mono hj hji;rw [H.1] at this;cases this):P:=h
theorem TI(h:P:=by
 unfold World.setCell;simp only[Array.getElem?_modify];rw [if_pos trivial,h];rfl):P:=h
theorem abG(h:P:=by
 rw [hr];refine⟨fun h=>(by cases h),fun j hj=>?_⟩;obtain rfl:j=i:=by simpa using hj
 unfold wpOp;simp only[hi];rw [if_pos hw];exact .inl (h x hx)):P:=h
theorem abH(h:P:=by
 rw [List.length_append] at hv6;have hv7:v'= .slice a6 (n.out.length+1) c6:=hv6;subst hv7;exact⟨a6,c6,w',hr,by rw [gN];exact ho,hg,hw⟩):P:=h
theorem abI(h:P:=by
 intro vs;induction vs with
 |nil=>intro w o;rfl
 |cons v vs ih=>intro w o;exact(ih (w.setCell ⟨g,o,none⟩ v) (o+1)).trans (by simp[World.setCell])):P:=h
theorem abJ(h:P:=by
 rcases xR with h|⟨j,y,h1,h2,h3⟩
 ·exact .inl h
 ·exact .inr ⟨j,y,h1,h2,(hbw.cell (p:=⟨g,off+j*4,none⟩) hgw).trans h3⟩):P:=h
theorem OE(h:P:=by
 rw [h1];exact⟨h2r,by rw [aW (by omega)];omega⟩):P:=h
theorem TJ(h:P:=by
 go_enter Tryz.func74,Tryz.ntmps74
 go_wp2
 go_ret;exact⟨rfl,rfl⟩):P:=h
theorem abK(h:P:=by
 obtain⟨c0,c1,c2,c3,c4,c5,c6,c7,c8,c9⟩:=iI h.blk;clear h;go_enter Tryz.func83,Tryz.ntmps83
 go_wp2_with fail;go_ret;exact⟨rfl,rfl⟩):P:=h
theorem TK(h:P:=by
 go_enter Tryz.func100,Tryz.ntmps100
 go_wp2
 go_ret;exact⟨rfl,rfl⟩):P:=h
theorem abL(h:P:=by
 have HBAD:=hide (gV hlt (show jA l (j+1)=false by rw [ah iF];simp[hsl]));clear iF fP hsl;exact adr):P:=h
theorem abM(h:P:=by
 have h:=(bf hok).1;unfold dx at h;simp only[Bool.and_eq_true,decide_eq_true_eq] at h;exact decide_eq_false (by omega)):P:=h
theorem abN(h:P:=by
 refine⟨h.1,?_⟩;rcases h.2 with h2|⟨g,cap,cur,hv,hg,hr⟩
 ·exact .inl h2
 ·exact .inr ⟨g,cap,cur,hv,Nat.le_trans hb hg,hr⟩):P:=h
theorem TL(h:P:=by
 go_enter Tryz.func99,Tryz.ntmps99
 go_wp2
 go_ret;exact⟨rfl,rfl⟩):P:=h
theorem abO(h:P:=by
 have h2I:(40:Int)≤(n.out.length:Int):=by omega
 have q2:decide ((40:Int)≤(n.out.length:Int))=true:=by simpa using h2I
 exact Za0):P:=h
theorem abP(h:P:=by
 go_wp2_with fail;go_meet
 case rel => exact ⟨rfl, n, A, ah uM⟩):P:=h
theorem TM(h:P:=by
 unfold wpOp;simp only[hi];rw [if_pos hwi];exact .inl (h1 x hx)):P:=h
theorem TP(h:P:=by
 unfold wpOp;simp only[hj];rw [if_pos hwj];exact .inl (h2 x hx)):P:=h
theorem TQ(h:P:=by
 go_enter Tryz.func23,Tryz.ntmps23
 go_wp2
 go_ret;exact⟨rfl,rfl⟩):P:=h
theorem abQ(h:P:=by
 go_enter Tryz.func70,Tryz.ntmps70
 go_wp2_with (go_at_call 68;refine(HA _).mono ?_;rintro e w1 ⟨rfl,rfl⟩)
 exact TG):P:=h
theorem abR(h:P:=by
 subst hji;exact(hy.toG hb).wpOp hi hx fun y hy'=>⟨hy'.mono (Nat.le_trans hb hx.size),zy (Ge.trans hx hy') H⟩):P:=h
theorem abS(h:P:=by
 go_enter Tryz.func24,Tryz.ntmps24
 go_wp2_with (go_at_call 54;refine HH.mono ?_;rintro e w1 ⟨rfl,rfl⟩)
 exact TG):P:=h
theorem abT(h:P:=by
 go_enter Tryz.func147,Tryz.ntmps147
 go_wp2
 refine wp_loop_rounds 1 ?_;rw [rounds_succ];go_wp2
 go_ret;exact⟨rfl,rfl⟩):P:=h
theorem abU(h:P:=by
 go_wp2_with fail;go_roundw
 case rel=>exact⟨k+1,by omega,by go_num,HB1⟩
 case measure=>simp[intOf];omega):P:=h
theorem abV(h:P:=by
 go_quiet (fail);go_wp2_with fail;go_meet
 case rel => exact ⟨rfl, _, oU w1 _ _⟩):P:=h
theorem aqn(h:P:=by
 obtain⟨g',off',e0,_,h0,_⟩:=iD.four (HL6.lies aY).1 0 (by simp);cases e0
 simpa using h0):P:=h
theorem TR(h:P:=by
 exact((Below.refl _ _).alloc (Nat.le_refl _) _).alloc (by simp) _):P:=h
theorem abW(h:P:=by
 go_wp2_with (go_at_call 23;refine(qC _ _ _ r _ h).mono ?_;rintro e w1 ⟨rfl,rfl⟩)
 go_ret;exact⟨rfl,rfl⟩):P:=h
theorem aqo(h:P:=by
 cases hq:IQ with
 |nil=>have:=ah Zm;rw [hq] at this;simp at this
 |cons a b=>exact⟨a,b,rfl⟩):P:=h
theorem OG(h:P:=by
 exact⟨0,Nat.zero_le _,rfl,Below.refl _ _⟩):P:=h
theorem abX(h:P:=by
 go_wp2_with fail;go_meet
 case rel => exact ⟨rfl, n1, A1, ah CG⟩):P:=h
theorem TU(h:P:=by
 dsimp only at s0 s1 s2 s3 t0 t1 t2 t3;exact aqG):P:=h
theorem abY(h:P:=by
 go_round
 case rel=>exact⟨k+1,x,by omega,by go_num,rfl,Ae.symm,HV⟩
 case measure=>simp[intOf];omega):P:=h
theorem abZ(h:P:=by
 rcases hrow.2 with⟨rfl,h0⟩|⟨g,cap,cur,rfl,_⟩
 ·exact⟨none,0,by rw [h0]⟩
 ·exact⟨_,_,rfl⟩):P:=h
theorem ab0(h:P:=by
 rw [List.length_append,List.length_append,gI,List.length_take,List.length_drop,List.length_drop];omega):P:=h
theorem ab1(h:P:=by
 cases hv:v'.ownBlock with
 |none=>exact .inl rfl
 |some k=>exact .inr (fun e=>hne k hv (by injection e))):P:=h
theorem ab2(h:P:=by
 obtain⟨a,cp,he,ha⟩:=GR.own_at (enc:=aU) (sz:=4) (l:=n.out) cu h.o;cases he
 exact ha):P:=h
theorem ab3(h:P:=by
 obtain⟨a,cp,he,ha⟩:=GR.own_at (enc:=aJ) (sz:=4) (l:=n.reqs) aY h.r;cases he
 exact ha):P:=h
theorem TV(h:P:=by
 simp only[Bool.and_eq_true,decide_eq_true_eq] at h;omega):P:=h
theorem TW(h:P:=by
 simp only[Bool.and_eq_true,decide_eq_true_eq];omega):P:=h
theorem ab4(h:P:=by
 exact hk2.seen (hk1.seen hno.s hno.c4 hno.ci (by omega) (by omega)) hno.c4 hno.ci (by omega) (by omega)):P:=h
theorem OH(h:P:=by
 exact ⟨0, 0, Nat.zero_le _, rfl, rfl⟩):P:=h
theorem ab5(h:P:=by
 have h:=ah jr k hlt;have h2:=ah kQ;rw [←ah HY] at h;rw [h,h2];rfl):P:=h
theorem ab6(h:P:=by
 refine aF 7 rfl (by kernel_rfl) (by rfl) ?_;exact aqx):P:=h
theorem TY(h:P:=by
 have:=fD hx;rw [this.1];exact dz (by omega)):P:=h
theorem ab7(h:P:=by
 rw [List.length_append,List.length_append,List.length_take,List.length_drop,h1];show _+4+_=_
 omega):P:=h
theorem ab8(h:P:=by
 rcases List.mem_cons.1 (hs a (by simp)) with h|h
 ·exact absurd h hab
 ·exact h):P:=h
theorem ab9(h:P:=by
 go_enter Tryz.func71,Tryz.ntmps71
 go_wp2
 go_ret;exact⟨aD HF.symm,rfl⟩):P:=h
theorem acd(h:P:=by
 refine wU hi h hf.symm ?_;have:=FT hs hL;rw [hf] at this;exact this):P:=h
theorem ace(h:P:=by
 unfold dx at h;simp only[Bool.and_eq_true] at h;exact(of_decide_eq_true h.1.1.1.2).2):P:=h
theorem T9(h:P:=by
 obtain⟨p,rfl⟩:=regrown_of_below hx;exact hv p):P:=h
theorem acf(h:P:=by
 go_simp;go_wp2_with fail;go_ret;exact⟨rfl,A,G,c,v,by rw [List.append_nil];exact HZ⟩):P:=h
theorem acg(h:P:=by
 rcases List.mem_cons.1 h1 with h2|h2
 ·exact .inl (.inr h2)
 ·exact .inr (hF y h2)):P:=h
theorem ach(h:P:=by
 rcases List.mem_cons.1 hx with h2|h2
 ·omega
 ·have:=hA'.1 x h2;omega):P:=h
theorem Ua(h:P:=by
 exact⟨0,Nat.zero_le _,rfl,rfl,Below.refl _ _⟩):P:=h
theorem Ub(h:P:=by
 go_ret;exact⟨aD (HP.symm.trans HQ),hB⟩):P:=h
theorem aci(h:P:=by
 cases sp with
 |nil=>simp at UW;omega
 |cons s0 sp'=>exact⟨s0,sp',rfl⟩):P:=h
theorem acj(h:P:=by
 cases v.ownBlock with
 |none=>exact .inl rfl
 |some k=>exact .inr (by intro e;cases e)):P:=h
theorem acn(h:P:=by
 subst hji;exact hy.wpOp hi hx fun y hy'=>⟨hy',sW (Ge.trans hx hy') H⟩):P:=h
theorem aco(h:P:=by
 subst hji;exact hy.wpOp hi hx fun y hy'=>⟨hy',zB (Ge.trans hx hy') H⟩):P:=h
theorem acp(h:P:=by
 obtain⟨D,⟨es,clock,h1,h2⟩,ha⟩:=h;exact⟨D,⟨es,clock,hb.trans h1,h2⟩,ha⟩):P:=h
theorem acr(h:P:=by
 subst hji;exact hy.wpOp hi hx fun y hy'=>⟨hy',Cq (Ge.trans hx hy') H⟩):P:=h
theorem acs(h:P:=by
 rintro e w' ⟨rfl,rfl⟩;exact⟨rfl,A,G,c,v,by rw [List.append_nil];exact h⟩):P:=h
theorem Uc(h:P:=by
 rw [Nat.add_mul,Nat.one_mul] at this;omega):P:=h
theorem acu(h:P:=by
 rw [if_neg (by omega),if_neg ej];exact h.nd i j hi' hj hij (by omega) h1 h2):P:=h
theorem acv(h:P:=by
 go_enter Tryz.func76,Tryz.ntmps76
 go_wp2_with fail;go_ret;exact⟨rfl,rfl⟩):P:=h
theorem acw(h:P:=by
 exact⟨k+1,by omega,by go_num,iJ.trans ((Ge.trans WL Rb).mono iJ.size)⟩):P:=h
theorem aqt(h:P:=by
 show(takeN n o.m).1.id=n.id
 unfold takeN;split
 ·rfl
 ·split<;>rfl):P:=h
theorem acy(h:P:=by
 unfold cK ow at *;split at h
 ·cases h
 ·rename_i hc
  rw [if_neg hc]):P:=h
theorem Ya0(h:P:=by
 open ahT in exact apS):P:=h
theorem Sa0.Ka0(h:P:=by
 have HCQ:=hide (xZ.nine (Nat.zero_le _));open agF in exact LX):P:=h
theorem Sa1.Ka0(h:P:=by
 open agE in exact LX):P:=h
theorem Sa2.Ka0(h:P:=by
 open agD in exact LX):P:=h
theorem Sa3.Ka0(h:P:=by
 open agC in exact LX):P:=h
theorem Sa4.Ka0(h:P:=by
 open agB in exact LX):P:=h
theorem Sa5.Ka0(h:P:=by
 open agA in exact LX):P:=h
theorem Sa6.Ka0(h:P:=by
 open agz in exact LX):P:=h
theorem Ya1(h:P:=by
 have HX:=hide hx;have HKQ:=hide hK;clear hx hK;generalize dX n o=TT at *;open alS in exact Ov):P:=h
theorem Sa7.Ka1(h:P:=by
 have c0:W.cell? ⟨w2.heap.size,5,none⟩=some (.func (.func 51) #[.pointer (some ⟨wb,0,none⟩)] #[]):=cell_of_row W _ 5 _ _ (0,0) e1;exact Za7):P:=h
theorem Sa8.Ka1(h:P:=by
 have c0:W.cell? ⟨w2.heap.size,4,none⟩=some (.func (.func 50) #[.pointer (some ⟨wb,0,none⟩)] #[]):=cell_of_row W _ 4 _ _ (0,0) e1;exact Za7):P:=h
theorem Sa9.Ka1(h:P:=by
 have c0:W.cell? ⟨w2.heap.size,3,none⟩=some (.func (.func 49) #[.pointer (some ⟨wb,0,none⟩)] #[]):=cell_of_row W _ 3 _ _ (0,0) e1;exact Za7):P:=h
theorem asz.Ka1(h:P:=by
 have c0:W.cell? ⟨w2.heap.size,2,none⟩=some (.func (.func 48) #[.pointer (some ⟨wb,0,none⟩)] #[]):=cell_of_row W _ 2 _ _ (0,0) e1;exact Za7):P:=h
theorem asA.Ka1(h:P:=by
 have c0:W.cell? ⟨w2.heap.size,1,none⟩=some (.func (.func 47) #[.pointer (some ⟨wb,0,none⟩)] #[]):=cell_of_row W _ 1 _ _ (0,0) e1;exact Za7):P:=h
theorem asB.Ka1(h:P:=by
 have c0:W.cell? ⟨w2.heap.size,0,none⟩=some (.func (.func 46) #[.pointer (some ⟨wb,0,none⟩)] #[]):=cell_of_row W _ 0 _ _ (0,0) e1;exact Za7):P:=h
theorem Ya2(h:P:=by
 have Lh:aC [sb,G.s] wc W6:=by
  exact aul
 have HIW:Hid (GR.W aP 1 W6 (some ⟨gi,0,none⟩) gi (aQ s0 mL)):=by
  exact auj
 have XD:Hid (W6.heap[sb]?=some (.cells #[.int .i64 mF,.int .i64 (bY s0 mL),.slice (some ⟨gi,0,none⟩) (aQ s0 mL).length Jc] 57 (0,0))):=by rw [Rk];exact fV _ hne1 (fV _ hne1 (fV _ hne1 (bg Sk 2 _)))
 have kS:=hide (Lh.obj yc (fun hx=>by simp at hx;omega));have Xl:=hide (Lh.obj afa (fun hx=>by simp at hx;omega));have iX:=hide (Lh.obj Ir (fun hx=>by simp at hx;omega))
 have hBs:B≤G.s:=by
  exact aum
 have aeV:=hide ((kC.mono hB).trans (Lh.below (B:=B) (fun x hx=>by simp at hx;omega) (Nat.le_trans hB kC.size)))
 have ae7:=hide (Apart.keeps (c:=c) (Apart.of_below kC) kC.size Lh (fun x hx=>by
  have h1:x=sb∨x=G.s:=by simpa using hx
  rcases h1 with rfl|rfl
  ·left;omega
  ·right;omega))
 have avZ:gi < W6.heap.size:=Nat.lt_of_lt_of_le auS Lh.size;have awq:w.heap.size+3≤W6.heap.size:=by have:=aA XD;omega
 have HCO:Hid (∀x,x < w.heap.size→6 < c x→rH gi (aQ s0 mL) (newC w.heap.size 9 c) x=9):=fun x hx h=>by rw [rV (fun hm=>by have:=(fD hm).1;omega),dR hx];exact H9 x h
 have Ac:Hid (∀x,w.heap.size≤x→x≠gi→rH gi (aQ s0 mL) (newC w.heap.size 9 c) x=9):=fun x hx h=>by rw [rV (fun hm=>h (fD hm).1)];exact aW hx
 clear Rk Lh hW5 Lu y0 y1 y2 x0 x1 x2 s40 s41 s42 sf c0 c1 c2 c3 c4 c5 c6 c7 c8 hnl yc afa Ir Sk kC;obtain⟨c0,c1,c2,c3,c4,c5,c6,c7,c8⟩:=nine kS;obtain⟨m0,m1,m2,m3,m4,m5,m6⟩:=iZ Xl;have hnl:=aA kS;have hml:=aA Xl;go_upto_region 16 with fail;refine wp_at (fun W7 Hy=>?_);have qx:=ay W6 (.cells #[.int .i64 2,.int .i64 n.id,.int .i64 mF,.int .i64 mI,.int .i64 0,.string ⟨#[]⟩,.int .i64 0] 32);have ha7:=heap_alloc_new W6 (.cells #[.int .i64 2,.int .i64 n.id,.int .i64 mF,.int .i64 mI,.int .i64 0,.string ⟨#[]⟩,.int .i64 0] 32);rw [←Hy] at qx ha7;have Rp:=hide ha7;have nH:=hide (au kS qx);have Xm:=hide (au Xl qx);have lN:=hide (au iX qx);have XE:=hide (au XD qx);have Xf:=hide (HIW.below qx);have Xp:=hide (WG.kc (k:=9) (KC.of_below qx) (by omega));have acL:=hide (aeV.trans (qx.mono (Nat.le_trans hB (by omega))));have acS:=hide (ae7.step (by omega) qx);obtain⟨ab,hab⟩:∃ab,W6.heap.size=ab:=⟨_,rfl⟩;have avV:w.heap.size+3≤ab:=by omega
 have habs:sb < ab:=by have:=aA XD;omega
 have avW:gi < ab:=by omega
 rw [hab] at Rp;rw [hab] at *;have hz7:=aA Rp;clear Hy qx ha7 c0 c1 c2 c3 c4 c5 c6 c7 c8 m0 m1 m2 m3 m4 m5 m6 hnl hml kS Xl iX XD HIW WG aeV ae7;obtain⟨m0,m1,m2,m3,m4,m5,m6⟩:=iZ Xm;obtain⟨s70,s71,s72⟩:=yX XE;have hml:=aA Xm;have avo:=aA XE;have Rz:=hide (fun W (ha:dM W (some ⟨gi,0,none⟩) (aQ s0 mL))=>O6 (some ⟨gi,0,none⟩) Jc (aQ s0 mL) mI W (by omega) ha);exact Ka2):P:=h
theorem asC.Ka2(h:P:=by
 open agN in exact apN):P:=h
theorem asD.Ka2(h:P:=by
 open agM in exact apN):P:=h
theorem asE.Ka2(h:P:=by
 obtain⟨c0,c1,c2,c3,c4,c5,c6,c7,c8⟩:=nine nH;open amG in exact aaz):P:=h
theorem Ya3(h:P:=by
 open atu in exact SI):P:=h
theorem asF.Ka3(h:P:=by
 refine lZ 1 7 rfl rfl (by kernel_rfl) (by rfl) (by rfl) ?_ ?_
 · go_simp;exact ab6
 · go_simp;refine aF 1 rfl (by kernel_rfl) (by rfl) ?_;exact aqx):P:=h
theorem asG.Ka3(h:P:=by
 exact ab6):P:=h
theorem asH.Ka3(h:P:=by
 refine lZ 0 2 rfl rfl (by kernel_rfl) (by rfl) (by rfl) ?_ ?_
 · go_simp;refine aF 2 rfl (by kernel_rfl) (by rfl) ?_;open aiT in exact ap8
 · open aiS in exact ap8):P:=h
theorem asI.Ka3(h:P:=by
 refine aF 1 rfl (by kernel_rfl) (by rfl) ?_;go_simp;exact aqu):P:=h
theorem asJ.Ka3(h:P:=by
 exact aqu):P:=h
theorem asK.Ka3(h:P:=by
 open aoX in exact Tv):P:=h
theorem asL.Ka3(h:P:=by
 open aoW in exact Tv):P:=h
theorem asM.Ka3(h:P:=by
 refine aF 8 rfl (by kernel_rfl) (by rfl) ?_;go_simp;refine wpAny_done (by kernel_rfl) ?_;go_simp;go_wp2_with fail;go_meet
 case rel => exact ⟨rfl, R.1, A', (ah uM).did (ah jd) (ah HRM) (ah HDZ)⟩):P:=h
theorem Ya4(h:P:=by
 have hiI:(i:Int) < (n.reqs.length:Int):=by omega
 have afj:=hide hrq;clear hrq;have hp:=fF hok;have Ip:=hide (fun W1 (ha:iD W1 fA n.reqs)=>xH n (⟨a_k,iH,dP,dS,fA,aK,bq,aO,aL,aT⟩:bQ) no W1 (by omega) hp.1 ha);rw [hJ] at Ip;clear hp hok hJ;unfold gL;have H9:=hide h9;clear h9;have l7:=hide (h.nine hB);clear h;go_enter Tryz.func60,Tryz.ntmps60
 go_upto_region 1 with fail;refine wp_at (fun W0 hW=>?_);obtain⟨e1,e2,e3,e4⟩:=fJ w (.cells (fO n (⟨a_k,iH,dP,dS,fA,aK,bq,aO,aL,aT⟩:bQ)) 30) (.cells #[.int .i64 K,.int .i64 no,.string k,.int .i64 nn,.int .i64 mK,.int .i64 mF,.int .i64 mT,.int .i64 mI,.int .i64 mL,.string mk,.int .i64 mN] 34) (.cells iV 30);open ang in exact Te):P:=h
theorem asN.Ka4(h:P:=by
 dsimp only at q0 q1 q2 q3 h1 h2 h3;open afw in exact apB):P:=h
theorem asO.Ka4(h:P:=by
 dsimp only at q0 q1 q2 q3 h1 h2 h3;exact adp):P:=h
theorem asP.Ka4(h:P:=by
 dsimp only at q0 q1 q2 q3 h1 h2;exact adp):P:=h
theorem asQ.Ka4(h:P:=by
 dsimp only at q0 q1 q2 q3 h1;exact adp):P:=h
theorem Ya5(h:P:=by
 open aiL in exact ap6):P:=h
theorem asR.Ka5(h:P:=by
 obtain⟨c0,c1,c2,c3,c4,c5,c6,c7,c8⟩:=nine jg;have hml:=aA vN;have hnl:=aA jg;go_wp2_with fail;refine(HGV W2 (Nat.le_trans hB HB2.size) RZ).mono ?_;open akM in exact ZQ):P:=h
theorem asS.Ka5(h:P:=by
 open aga in exact apG):P:=h
theorem asT.Ka5(h:P:=by
 open af9 in exact apG):P:=h
theorem asU.Ka5(h:P:=by
 obtain⟨c0,c1,c2,c3,c4,c5,c6,c7,c8⟩:=nine jg;have hml:=aA vN;have hnl:=aA jg;have Ig:=hide (World.ownsRow_lit (base:=W2.heap.size) (e:=55) (size:=4) W2 #[] 0 (Nat.le_refl _) (by decide) rfl);go_wp2_with fail;clear m0 m1 m2 m3 m4 m5 m6 c0 c1 c2 c3 c4 c5 c6 c7 c8 hml hnl;go_loopw [7,8] (fun v i wr=>∃(k:Nat) (a:Option Addr) (cp:Nat),k≤n.out.length∧v= .slice a (FL k).length cp∧i= .int .i64 k∧wr.ownsRow W2.heap.size 55 4 (.slice a (FL k).length cp) (FL k).length (GR.flat aU (FL k))∧Below W2.heap.size W2 wr) (fun _ i _=>n.out.length - (intOf i).toNat)
 case atStart=>exact⟨0,some ⟨W2.heap.size,0,none⟩,0,Nat.zero_le _,by rw [ah HF0];rfl,rfl,by rw [ah HF0];exact Ig,ay W2 _⟩
 case round=>
  obtain⟨k,a,cp,hk,rfl,rfl,hown,hbw⟩:=hrel;have HO:=hide hown;have iJ:=hide hbw;have kE:=hide (au jg hbw);have Pj:=hide (au vN hbw);have HNK:=hide (HFN k);clear hown hbw;obtain⟨m0,m1,m2,m3,m4,m5,m6⟩:=iZ Pj;obtain⟨c0,c1,c2,c3,c4,c5,c6,c7,c8⟩:=nine kE;have hml:=aA Pj;have hnl:=aA kE;by_cases hlt:k < n.out.length
  ·have Jm:(k:Int) < (n.out.length:Int):=by omega
   have Za:=hide (HFS k hlt);obtain⟨g,off,e0,hg,s0,s1,s2,s3⟩:=SentAt.four (GR.At.below RZ.at.o iJ) k hlt;rw [e0] at c5;clear e0;generalize n.out[k]=sk at *;obtain⟨si,st,sk,sn⟩:=sk;dsimp only at s0 s1 s2 s3 Za;obtain⟨FK,hFK⟩:∃FK,FL (k+1)=FK:=⟨_,rfl⟩;have HX0:=hide hFK;rw [hFK] at Za;clear hFK;by_cases hA:si=mI
   ·by_cases hB2:st=mF
    ·have HX:Hid (FK=FL k):=by unfold Hid;rw [ah Za,if_pos ⟨hA,hB2⟩]
     have x0:(si != mI)=false:=by simp[hA]
     have x1:(st != mF)=false:=by simp[hB2]
     clear hA hB2 Za;go_wp2_with fail;go_quiet (fail);go_wp2_with fail;go_roundw
     case rel=>exact⟨k+1,a,cp,by omega,by rw [ah HX0,ah HX],by go_num,by rw [ah HX0,ah HX];exact HO,iJ.trans (Below.mono (B:=(wr.drewN nq).heap.size) ⟨rfl,rfl,rfl,Nat.le_refl _,fun _ _=>rfl⟩ iJ.size)⟩
     case measure=>simp[intOf];omega
    ·have HX:Hid (FK=FL k++[⟨si,st,sk,sn⟩]):=by unfold Hid;rw [ah Za,if_neg (fun e=>hB2 e.2)]
     have x0:(si != mI)=false:=by simp[hA]
     have x1:(st != mF)=true:=by simpa using hB2
     clear hA hB2 Za;exact aqy
   ·have HX:Hid (FK=FL k++[⟨si,st,sk,sn⟩]):=by unfold Hid;rw [ah Za,if_neg (fun e=>hA e.1)]
    have x0:(si != mI)=true:=by simpa using hA
    clear hA Za;exact aqy
  ·have hke:k=n.out.length:=by omega
   subst hke;have hnlt:decide ((n.out.length:Int) < (n.out.length:Int))=false:=by simp
   have kH:=hide (au iW iJ);have HN3:=hide (RZ.kc (k:=9) (KC.of_below iJ) (by omega));have HB3:=hide (HB2.trans (iJ.mono HB2.size));have h2r:=aA iW;clear hlt hk HNK HFS HFN HF0 Ig iJ jg vN iW RZ HB2;have f5n:=aj kE 5;go_upto_region 14 with fail;refine wp_at (fun Z hZ=>?_);have yc:Hid (Z.heap[w.heap.size]?=some (.cells #[.int .i64 n.id,.int .i64 n.par,.slice A.k n.kids.length A.ck,.int .i64 n.next,.slice A.p n.pu.length A.cp,.slice a (FL n.out.length).length cp,.slice A.s n.seen.length A.cs,.int .i64 n.old,.slice A.r n.reqs.length A.cr] 30 (0,0))):=by rw [hZ];exact mV kE
   have Ir:Hid (Z.heap[w.heap.size+2]?=some (.cells iV 30 (0,0))):=by rw [hZ];exact jB kH (by omega)
   have Pk:Hid (NQ Z B n A G (newC w.heap.size 9 c)):=by rw [hZ];exact HN3.kc (k:=9) (KC.set (aW (Nat.le_refl _))) (by omega)
   have Hr:Hid (Z.ownsRow W2.heap.size 55 4 (.slice a (FL n.out.length).length cp) (FL n.out.length).length (GR.flat aU (FL n.out.length))):=by rw [hZ];exact dB HO (aC.set _) (fun y hy=>by have:y=w.heap.size:=(by simpa using hy);omega)
   have kC:Hid (Below B w Z):=by rw [hZ];exact(HB3.mono hB).setCell (p:=⟨w.heap.size,5,none⟩) hB _
   have HK4:Hid (Apart c w Z):=by rw [hZ];exact(Apart.of_below HB3).keeps HB3.size (aC.set _) (fun y hy=>by have:y=w.heap.size:=(by simpa using hy);omega)
   clear hZ f5n c0 c1 c2 c3 c4 c5 c6 c7 c8 m0 m1 m2 m3 m4 m5 m6 hml hnl kE Pj kH HN3 HB3 HO;have oI:=hide (au Ir (ay Z (.cells #[] 32)));have rP:=hide (kC.trans ((ay Z (.cells #[] 32)).mono (Nat.le_trans hB kC.size)));have Zg:=hide (HK4.step kC.size (ay Z (.cells #[] 32)));have EZ:=hide (Pk.kc (k:=9) (KC.of_below (ay Z (.cells #[] 32))) (by omega));have HOA:=hide (GR.own_below Hr (ay Z (.cells #[] 32)));obtain⟨c0,c1,c2,c3,c4,c5,c6,c7,c8⟩:=nine yc;open ag8 in exact PD):P:=h
theorem asV.Ka5(h:P:=by
 obtain⟨c0,c1,c2,c3,c4,c5,c6,c7,c8⟩:=nine jg;have hml:=aA vN;have hnl:=aA jg;go_wp2_with fail;refine(Ob W2 (Nat.le_trans hB HB2.size) RZ).mono ?_;open akL in exact ZQ):P:=h
theorem Rh(h:P:=by
 obtain⟨d0,d1,d2,d3,d4,d5,d6,d7,d8⟩:=nine tu;have f0:=aj tu 0;have f1:=aj tu 1;have f2:=aj tu 2;have f3:=aj tu 3;have f4:=aj tu 4;have f5:=aj tu 5;have f6:=aj tu 6;have f7:=aj tu 7;have f8:=aj tu 8;have hrl:=aA tu;exact Ka6):P:=h
theorem asW.Ka6(h:P:=by
 open akO in exact ZR):P:=h
theorem asX.Ka6(h:P:=by
 open akN in exact ZR):P:=h
theorem asY.Ka6(h:P:=by
 open aky in exact Oi):P:=h
theorem asZ.Ka6(h:P:=by
 open akU in exact ZT):P:=h
theorem as0.Ka6(h:P:=by
 open akT in exact ZT):P:=h
theorem as1.Ka6(h:P:=by
 open akx in exact Oi):P:=h
theorem as3.Ka6(h:P:=by
 open alm in exact Z0):P:=h
theorem as4.Ka6(h:P:=by
 open alk in exact Z0):P:=h
theorem as5.Ka6(h:P:=by
 open akw in exact Oi):P:=h
theorem as6.Ka6(h:P:=by
 open alo in exact Z4):P:=h
theorem as7.Ka6(h:P:=by
 open aln in exact Z4):P:=h
theorem as8.Ka6(h:P:=by
 open akv in exact Oi):P:=h
theorem Ya7(h:P:=by
 open aia in exact PE):P:=h
theorem as9.Ka7(h:P:=by
 go_wp2_with fail;exact bodyPost_ret (v:= .tuple #[tK ⟨2,F,T,I,0,ByteArray.empty,0⟩,.bool true]) (by simp[results,Tryz.results102,go_sem,tK]) rfl ⟨by rw [ah HP],kD⟩):P:=h
theorem ata.Ka7(h:P:=by
 go_wp2_with fail;exact bodyPost_ret (v:= .tuple #[tK ⟨2,F,T,I,0,ByteArray.empty,N⟩,.bool false]) (by simp[results,Tryz.results102,go_sem,tK]) rfl ⟨by rw [ah HP],kD⟩):P:=h
theorem atb.Ka7(h:P:=by
 go_wp2_with fail;exact bodyPost_ret (v:= .tuple #[tK ⟨2,F,T,I,0,k,N⟩,.bool false]) (by simp[results,Tryz.results102,go_sem,tK]) rfl ⟨by rw [ah HP],kD⟩):P:=h
theorem atc.Ka7(h:P:=by
 exact abA):P:=h
theorem Ya8(h:P:=by
 have HW:=hide h;obtain⟨K,no,k,nn,⟨mK,mF,mT,mI,mL,mk,mN⟩⟩:=o;dsimp only at *;open atY in exact Fg):P:=h
theorem atd.Ka8(h:P:=by
 go_enter Tryz.func48,Tryz.ntmps48
 open afu in exact Pz):P:=h
theorem ate.Ka8(h:P:=by
 go_enter Tryz.func48,Tryz.ntmps48
 open aft in exact Pz):P:=h
theorem atf.Ka8(h:P:=by
 go_enter Tryz.func48,Tryz.ntmps48
 exact aqI):P:=h
theorem atg.Ka8(h:P:=by
 go_enter Tryz.func47,Tryz.ntmps47
 open auf in exact Pz):P:=h
theorem ath.Ka8(h:P:=by
 go_enter Tryz.func47,Tryz.ntmps47
 open aue in exact Pz):P:=h
theorem ati.Ka8(h:P:=by
 go_enter Tryz.func47,Tryz.ntmps47
 exact aqI):P:=h
theorem atj.Ka8(h:P:=by
 go_enter Tryz.func48,Tryz.ntmps48
 open aud in exact Pz):P:=h
theorem Ya9(h:P:=by
 cases h1:decide (old+1≤si∧si≤1000000000)
 case' false=>
  have a1:=rIn si (old+1) 1000000000 false W1 h1
  have HV:=hide (show bb=true by rw [←ah eP];simp[h1])
  clear eP
  refine wp_region_quiet_below (by kernel_rfl) (by kernel_rfl) ?_
  repeat (first|go_big_quiet_step ((first|(go_at_call_of 23 si;exact a1 _ _)))|quiet_step ((first|(go_at_call_of 23 si;exact a1 _ _))))
  refine wpQuiet_nil ?_
  intro _ hw'
  obtain⟨⟨dq,osq⟩,hw''⟩:=hw'
  subst hw''
  go_wp2_with fail
  go_meet
  case rel=>exact uN
 have a1:=rIn si (old+1) 1000000000 true W1 h1;cases h2:keyOk sx.data.toList
 case' false=>
  have a2:=YJ sx false W1 (Nat.le_trans hks (by unfold maxLen;omega)) h2
  have HV:=hide (show bb=true by rw [←ah eP];simp[h2])
  clear eP
  refine wp_region_quiet_below (by kernel_rfl) (by kernel_rfl) ?_
  repeat (first|go_big_quiet_step ((first|(go_at_call_of 23 si;exact a1 _ _)|(go_at_call 25;exact a2 _ _)))|quiet_step ((first|(go_at_call_of 23 si;exact a1 _ _)|(go_at_call 25;exact a2 _ _))))
  refine wpQuiet_nil ?_
  intro _ hw'
  obtain⟨⟨dq,osq⟩,hw''⟩:=hw'
  subst hw''
  go_wp2_with fail
  go_meet
  case rel=>exact uN
 have a2:=YJ sx true W1 (Nat.le_trans hks (by unfold maxLen;omega)) h2;cases h3:eU sn
 case' false=>
  have a3:=EF sn false W1 h3
  have HV:=hide (show bb=true by rw [←ah eP];simp[h3])
  clear eP
  refine wp_region_quiet_below (by kernel_rfl) (by kernel_rfl) ?_
  repeat (first|go_big_quiet_step ((first|(go_at_call_of 23 si;exact a1 _ _)|(go_at_call 25;exact a2 _ _)|(go_at_call 21;exact a3 _ _)))|quiet_step ((first|(go_at_call_of 23 si;exact a1 _ _)|(go_at_call 25;exact a2 _ _)|(go_at_call 21;exact a3 _ _))))
  refine wpQuiet_nil ?_
  intro _ hw'
  obtain⟨⟨dq,osq⟩,hw''⟩:=hw'
  subst hw''
  go_wp2_with fail
  go_meet
  case rel=>exact uN
 have a3:=EF sn true W1 h3;cases h4:decide (0≤st∧st≤2)
 case' false=>
  have a4:=rIn st 0 2 false W1 h4
  have HV:=hide (show bb=true by rw [←ah eP];simp[h4])
  clear eP
  refine wp_region_quiet_below (by kernel_rfl) (by kernel_rfl) ?_
  repeat (first|go_big_quiet_step ((first|(go_at_call_of 23 si;exact a1 _ _)|(go_at_call 25;exact a2 _ _)|(go_at_call 21;exact a3 _ _)|(go_at_call_of 23 st;exact a4 _ _)))|quiet_step ((first|(go_at_call_of 23 si;exact a1 _ _)|(go_at_call 25;exact a2 _ _)|(go_at_call 21;exact a3 _ _)|(go_at_call_of 23 st;exact a4 _ _))))
  refine wpQuiet_nil ?_
  intro _ hw'
  obtain⟨⟨dq,osq⟩,hw''⟩:=hw'
  subst hw''
  go_wp2_with fail
  go_meet
  case rel=>exact uN
 have a4:=rIn st 0 2 true W1 h4;exact Ka9):P:=h
theorem atl.Ka9(h:P:=by
 by_cases hp:y < si
 case' neg=>
  have hy:decide (si≤y)=true:=decide_eq_true (by omega)
  have HV:=hide (show bb=true by rw [←ah eP];simp[hp])
  clear eP
  refine wp_region_quiet_below (by kernel_rfl) (by kernel_rfl) ?_
  repeat (first|go_big_quiet_step ((first|(go_at_call_of 23 si;exact a1 _ _)|(go_at_call 25;exact a2 _ _)|(go_at_call 21;exact a3 _ _)|(go_at_call_of 23 st;exact a4 _ _)))|quiet_step ((first|(go_at_call_of 23 si;exact a1 _ _)|(go_at_call 25;exact a2 _ _)|(go_at_call 21;exact a3 _ _)|(go_at_call_of 23 st;exact a4 _ _))))
  refine wpQuiet_nil ?_
  intro _ hw'
  obtain⟨⟨dq,osq⟩,hw''⟩:=hw'
  subst hw''
  go_wp2_with fail
  go_meet
  case rel=>exact uN
 have hy:decide (si≤y)=false:=decide_eq_false (by omega);have HV:=hide (show bb=false by rw [←ah eP];simp[h1,h2,h3,h4,hp]);exact aqZ):P:=h
theorem atm.Ka9(h:P:=by
 have HV:=hide (show bb=false by rw [←ah eP];simp[h1,h2,h3,h4]);exact aqZ):P:=h
theorem apw(h:P:=by
 cases h1:decide (1≤si∧si≤next - 1)
 case' false=>
  have a1:=rIn si 1 (next - 1) false W1 h1
  have HV:=hide (show bb=true by rw [←ah eP];simp[h1])
  clear eP
  refine wp_region_quiet_below (by kernel_rfl) (by kernel_rfl) ?_
  repeat (first|go_big_quiet_step ((first|(go_at_call 23;exact a1 _ _)))|quiet_step ((first|(go_at_call 23;exact a1 _ _))))
  refine wpQuiet_nil ?_
  intro _ hw'
  obtain⟨⟨dq,osq⟩,hw''⟩:=hw'
  subst hw''
  go_wp2_with fail
  go_meet
  case rel=>exact uN
 have a1:=rIn si 1 (next - 1) true W1 h1;cases h2:NN st
 case' false=>
  have a2:=ah Hq st false W1 rF h2
  have HV:=hide (show bb=true by rw [←ah eP];simp[h2])
  clear eP
  refine wp_region_quiet_below (by kernel_rfl) (by kernel_rfl) ?_
  repeat (first|go_big_quiet_step ((first|(go_at_call 23;exact a1 _ _)|(go_at_call 24;exact a2 _ _)))|quiet_step ((first|(go_at_call 23;exact a1 _ _)|(go_at_call 24;exact a2 _ _))))
  refine wpQuiet_nil ?_
  intro _ hw'
  obtain⟨⟨dq,osq⟩,hw''⟩:=hw'
  subst hw''
  go_wp2_with fail
  go_meet
  case rel=>exact uN
 have a2:=ah Hq st true W1 rF h2;cases h3:keyOk sx.data.toList
 case' false=>
  have a3:=YJ sx false W1 (Nat.le_trans hks (by unfold maxLen;omega)) h3
  have HV:=hide (show bb=true by rw [←ah eP];simp[h3])
  clear eP
  refine wp_region_quiet_below (by kernel_rfl) (by kernel_rfl) ?_
  repeat (first|go_big_quiet_step ((first|(go_at_call 23;exact a1 _ _)|(go_at_call 24;exact a2 _ _)|(go_at_call 25;exact a3 _ _)))|quiet_step ((first|(go_at_call 23;exact a1 _ _)|(go_at_call 24;exact a2 _ _)|(go_at_call 25;exact a3 _ _))))
  refine wpQuiet_nil ?_
  intro _ hw'
  obtain⟨⟨dq,osq⟩,hw''⟩:=hw'
  subst hw''
  go_wp2_with fail
  go_meet
  case rel=>exact uN
 have a3:=YJ sx true W1 (Nat.le_trans hks (by unfold maxLen;omega)) h3;cases h4:eU sn
 case' false=>
  have a4:=EF sn false W1 h4
  have HV:=hide (show bb=true by rw [←ah eP];simp[h4])
  clear eP
  refine wp_region_quiet_below (by kernel_rfl) (by kernel_rfl) ?_
  repeat (first|go_big_quiet_step ((first|(go_at_call 23;exact a1 _ _)|(go_at_call 24;exact a2 _ _)|(go_at_call 25;exact a3 _ _)|(go_at_call 21;exact a4 _ _)))|quiet_step ((first|(go_at_call 23;exact a1 _ _)|(go_at_call 24;exact a2 _ _)|(go_at_call 25;exact a3 _ _)|(go_at_call 21;exact a4 _ _))))
  refine wpQuiet_nil ?_
  intro _ hw'
  obtain⟨⟨dq,osq⟩,hw''⟩:=hw'
  subst hw''
  go_wp2_with fail
  go_meet
  case rel=>exact uN
 have a4:=EF sn true W1 h4;exact Ka10):P:=h
theorem atn.Ka10(h:P:=by
 by_cases hp:y < si
 case' neg=>
  have hy:decide (si≤y)=true:=decide_eq_true (by omega)
  have HV:=hide (show bb=true by rw [←ah eP];simp[hp])
  clear eP
  refine wp_region_quiet_below (by kernel_rfl) (by kernel_rfl) ?_
  repeat (first|go_big_quiet_step ((first|(go_at_call 23;exact a1 _ _)|(go_at_call 24;exact a2 _ _)|(go_at_call 25;exact a3 _ _)|(go_at_call 21;exact a4 _ _)))|quiet_step ((first|(go_at_call 23;exact a1 _ _)|(go_at_call 24;exact a2 _ _)|(go_at_call 25;exact a3 _ _)|(go_at_call 21;exact a4 _ _))))
  refine wpQuiet_nil ?_
  intro _ hw'
  obtain⟨⟨dq,osq⟩,hw''⟩:=hw'
  subst hw''
  go_wp2_with fail
  go_meet
  case rel=>exact uN
 have hy:decide (si≤y)=false:=decide_eq_false (by omega);have HV:=hide (show bb=false by rw [←ah eP];simp[h1,h2,h3,h4,hp]);exact ara):P:=h
theorem ato.Ka10(h:P:=by
 have HV:=hide (show bb=false by rw [←ah eP];simp[h1,h2,h3,h4]);exact ara):P:=h
theorem apx(h:P:=by
 have Ai:=hide (fun W (ha:aH W (some ⟨gp,0,none⟩) n.pu)=>ou (some ⟨gp,0,none⟩) bq n.pu key W hl ha);rw [hpp] at Ai;unfold wY at Ai;clear hpp;have hbw0:=ay w (.cells (fO n (⟨a_k,(some ⟨gp,0,none⟩),dP,dS,fA,aK,bq,aO,aL,aT⟩:bQ)) 30);have l7:=hide (h.nine hB);clear h;go_enter Tryz.func64,Tryz.ntmps64
 go_upto_region 1 with fail;refine wp_at (fun W0 hW=>?_);obtain⟨e1,e2,e3⟩:=jL w (.cells (fO n (⟨a_k,(some ⟨gp,0,none⟩),dP,dS,fA,aK,bq,aO,aL,aT⟩:bQ)) 30) (.cells iV 30);open ajC in exact aqh):P:=h
theorem atp.Ka11(h:P:=by
 have hn6:=aA kS;go_upto_region 8 with fail;refine wp_at (fun Z7 hZ=>?_)
 have HS7:Hid (Z7.heap[Z6.heap.size]?=some (.cells #[.int .i64 n.next,.int .i64 dst,.string key,.int .i64 pf] 55 (0,0))):=by
  rw [hZ];exact heap_alloc_new Z6 _
 open ahc in exact apQ):P:=h
theorem atq.Ka11(h:P:=by
 have hn6:=aA kS;go_upto_region 8 with fail;refine wp_at (fun Z7 hZ=>?_)
 have HS7:Hid (Z7.heap[Z6.heap.size]?=some (.cells #[.int .i64 n.next,.int .i64 dst,.string key,.int .i64 most] 55 (0,0))):=by
  rw [hZ];exact heap_alloc_new Z6 _
 open ahb in exact apQ):P:=h
theorem SI(h:P:=by
 open agr in exact TA):P:=h
theorem atr.Ka12(h:P:=by
 refine lZ 1 5 rfl rfl (by kernel_rfl) (by rfl) (by rfl) ?_ ?_
 · go_simp;refine aF 5 rfl (by kernel_rfl) (by rfl) ?_;open agP in exact apO
 · open agO in exact apO):P:=h
theorem att.Ka12(h:P:=by
 refine lZ 1 3 rfl rfl (by kernel_rfl) (by rfl) (by rfl) ?_ ?_
 · go_simp;refine aF 3 rfl (by kernel_rfl) (by rfl) ?_;open ajP in exact aqk
 · open ajO in exact aqk):P:=h
theorem atu.Ka12(h:P:=by
 exact Ka3):P:=h
theorem atv.Ka12(h:P:=by
 refine eO 9 rfl (by kernel_rfl) (by kernel_rfl) (by kernel_rfl) (fun _ _ _ _ h => h) (fun K hK => ?_);open asL in exact Ya3):P:=h
theorem atw.Ka12(h:P:=by
 refine eO 7 rfl (by kernel_rfl) (by kernel_rfl) (by kernel_rfl) (fun _ _ _ _ h => h) (fun K hK => ?_);open asM in exact Ya3):P:=h
theorem ac7(h:P:=by
 obtain⟨gi,Jc,rfl,ru,auL,hb4⟩:=hcut;have Sk:=hide (au XC hb4);have yc:=hide (au kE hb4);have afa:=hide (au Pj hb4);have Ir:=hide (au kH hb4);have kC:=hide (HB3.trans (hb4.mono HB3.size));have acU:=hide (afd.kc (k:=9) (KC.of_below hb4) (by omega));have hgi:W3.heap.size≤gi:=(ru.lt gi rfl).1;have auS:gi < wc.heap.size:=(ru.lt gi rfl).2
 have avX:(aQ s0 mL).length≤Jc:=by
  exact aun
 have awo:=aA Sk;have hIL:(aQ s0 mL).length≤1000:=Nat.le_trans (List.length_filter_le _ _) hil;have hW5:WO (wc.setCell ⟨sb,2,none⟩ (.slice (some ⟨gi,0,none⟩) (aQ s0 mL).length Jc)) (some ⟨gi,0,none⟩) Jc gi (aQ s0 mL):=(WO.of_own (SE aN ru) ru auL).keeps (aC.set _) (fun x hx hm=>by have h1:=(fD hx).1;simp at hm;omega);have xZ:=hide (acU.kc (k:=9) (w':=wc.setCell ⟨sb,2,none⟩ (.slice (some ⟨gi,0,none⟩) (aQ s0 mL).length Jc)) (KC.set (aW (by omega))) (by omega));have Lu:=hide (xZ.seenPut i hi ⟨mF,bY s0 mL,aQ s0 mL⟩ (some ⟨gi,0,none⟩) Jc gi hW5 (fun x hx=>by rw [(fD hx).1];exact aW (by omega)));have av3:G.s≠w.heap.size:=by omega
 obtain⟨T,hT,hlT,hrT⟩:=acU.s;obtain⟨_,_,hcT⟩:=hT i (by omega);open ajH in exact aqj):P:=h
theorem atx.Ka13(h:P:=by
 open amr in exact aau):P:=h
theorem aty.Ka13(h:P:=by
 open amq in exact aau):P:=h
theorem atz.Ka13(h:P:=by
 have WG:Hid (NQ W6 B (bn n (n.seen.set i ⟨mF,bY s0 mL,aQ s0 mL⟩)) (⟨a_k,iH,dP,(some ⟨G.s,0,none⟩),fA,aK,bq,aO,aL,aT⟩:bQ) ⟨G.k,G.p,G.o,G.s,G.r,jQ G.i i gi⟩ (rH gi (aQ s0 mL) (newC w.heap.size 9 c))):=by rw [Rk];exact Lu
 open asE in exact Ya2):P:=h
theorem Fe(h:P:=by
 have hb:=ay W0 (.cells #[] 32);have hW1:W1=W0.alloc (.cells #[] 32):=by rw [hW,←hW0]
 rw [←hW1] at hb;have HN:=hide (au e1 hb);have HO:=hide (au e2 hb);have HR:=hide (au e3 hb);have HB1:=hide (e4.trans (hb.mono e4.size));clear hW hW0 hW1 e1 e2 e3 e4 hb;obtain⟨c0,c1,c2,c3,c4,c5,c6,c7,c8⟩:=nine HN;obtain⟨⟨p0,p1,p2,p3,p4,p5,p6,p7,p8,p9,mZ⟩,_⟩:=bX HO;exact Ka14):P:=h
theorem atA.Ka14(h:P:=by
 open ahS in exact apS):P:=h
theorem atC.Ka14(h:P:=by
 open aly in exact aac):P:=h
theorem atD.Ka14(h:P:=by
 open Sa0 in exact Ya0):P:=h
theorem atE.Ka14(h:P:=by
 open Sa1 in exact Ya0):P:=h
theorem atF.Ka14(h:P:=by
 open Sa2 in exact Ya0):P:=h
theorem atH.Ka14(h:P:=by
 open Sa3 in exact Ya0):P:=h
theorem atI.Ka14(h:P:=by
 open Sa4 in exact Ya0):P:=h
theorem atJ.Ka14(h:P:=by
 open Sa5 in exact Ya0):P:=h
theorem atK.Ka14(h:P:=by
 open Sa6 in exact Ya0):P:=h
theorem apy(h:P:=by
 go_enter Tryz.func60,Tryz.ntmps60
 go_upto_region 1 with fail;refine wp_at (fun W0 hW=>?_);obtain⟨e1,e2,e3,e4⟩:=fJ w (.cells (fO n (⟨a_k,(some ⟨gp,0,none⟩),dP,dS,(some ⟨gr,0,none⟩),aK,bq,aO,aL,aT⟩:bQ)) 30) (.cells #[.int .i64 K,.int .i64 no,.string k,.int .i64 nn,.int .i64 mK,.int .i64 mF,.int .i64 mT,.int .i64 mI,.int .i64 mL,.string mk,.int .i64 mN] 34) (.cells iV 30);open anf in exact Te):P:=h
theorem atL.Ka15(h:P:=by
 have hnl:=aA kE;have avm:=aA LC;go_upto_region 13 with fail;refine wp_at (fun W4 P7=>?_);have yc:Hid (W4.heap[w.heap.size]?=some (.cells #[.int .i64 n.id,.int .i64 n.par,.slice a_k n.kids.length aK,.int .i64 n.next,.slice (some ⟨gp,0,none⟩) n.pu.length bq,.slice dP n.out.length aO,.slice dS n.seen.length aL,.int .i64 n.old,.slice (some ⟨gr,0,none⟩) n.reqs.length aT] 30 (0,0))):=by rw [P7];exact kE
 have ac1:Hid (W4.heap[W1.heap.size]?=some (.cells #[.int .i64 no,.string k,.int .i64 nn,.int .i64 1] 43 (0,0))):=by rw [P7];exact LC
 have Xu:Hid (W4.heap[w.heap.size+1]?=some (.cells #[.int .i64 K,.int .i64 no,.string k,.int .i64 nn,.int .i64 mK,.int .i64 mF,.int .i64 mT,.int .i64 mI,.int .i64 mL,.string mk,.int .i64 mN] 34 (0,0))):=by rw [P7];exact E8
 have Ir:Hid (W4.heap[w.heap.size+2]?=some (.cells iV 30 (0,0))):=by rw [P7];exact kH
 have kC:Hid (Below w.heap.size w W4):=by rw [P7];exact HB3
 open alj in exact ZY):P:=h
theorem atM.Ka15(h:P:=by
 have hnl:=aA kE;have avm:=aA LC;go_upto_region 13 with fail;refine wp_at (fun W4 P7=>?_);have hne1:w.heap.size≠W1.heap.size:=by omega
 have yc:Hid (W4.heap[w.heap.size]?=some (.cells #[.int .i64 n.id,.int .i64 n.par,.slice a_k n.kids.length aK,.int .i64 n.next,.slice av RL.length cv,.slice dP n.out.length aO,.slice dS n.seen.length aL,.int .i64 n.old,.slice (some ⟨gr,0,none⟩) n.reqs.length aT] 30 (0,0))):=by rw [P7];exact fV _ hne1 (bg kE 4 _)
 have ac1:Hid (W4.heap[W1.heap.size]?=some (.cells #[.int .i64 no,.string k,.int .i64 nn,.int .i64 0] 43 (0,0))):=by rw [P7];exact bg (fV _ hne1.symm LC) 3 _
 have Xu:Hid (W4.heap[w.heap.size+1]?=some (.cells #[.int .i64 K,.int .i64 no,.string k,.int .i64 nn,.int .i64 mK,.int .i64 mF,.int .i64 mT,.int .i64 mI,.int .i64 mL,.string mk,.int .i64 mN] 34 (0,0))):=by rw [P7];exact fV _ (by omega) (fV _ (by omega) E8)
 have Ir:Hid (W4.heap[w.heap.size+2]?=some (.cells iV 30 (0,0))):=by rw [P7];exact fV _ (by omega) (fV _ (by omega) kH)
 have kC:Hid (Below w.heap.size w W4):=by rw [P7];exact(HB3.setCell (p:=⟨w.heap.size,4,none⟩) (Nat.le_refl _) _).setCell (p:=⟨W1.heap.size,3,none⟩) (by simp;omega) _
 have Pp:Hid (LO 84 eG 4 (w.heap.size+3) W4 av cv RL):=by
  rw [P7];have hk:aC [w.heap.size,W1.heap.size] W3 ((W3.setCell ⟨w.heap.size,4,none⟩ (.slice av RL.length cv)).setCell ⟨W1.heap.size,3,none⟩ (.int .i64 0)):=((aC.set _).mono (by simp)).trans ((aC.set _).mono (by simp));exact(HRW.keeps hk (fun x hx=>by simp at hx;omega)).lower (by omega)
 open ali in exact ZY):P:=h
theorem apz(h:P:=by
 have hiI:(i:Int) < (n.reqs.length:Int):=by omega
 have HST:=hide hst;clear hR hst;have hp:=fF hok;have Ip:=hide (fun W1 (ha:iD W1 fA n.reqs)=>xH n (⟨a_k,iH,dP,dS,fA,aK,bq,aO,aL,aT⟩:bQ) no W1 (by omega) hp.1 ha);rw [hJ] at Ip;clear hp hok;unfold gL;have H9:=hide h9;clear h9;have hbw0:=ay w (.cells (fO n (⟨a_k,iH,dP,dS,fA,aK,bq,aO,aL,aT⟩:bQ)) 30);open al7 in exact Oz):P:=h
theorem atN.Ka16(h:P:=by
 clear hW' e4 fu;exact bodyPost_ret (v:= .tuple #[.agg #[.int .i64 n.id,.int .i64 n.par,.slice a_k n.kids.length aK,.int .i64 n.next,.slice iH n.pu.length bq,.slice dP n.out.length aO,.slice dS n.seen.length aL,.int .i64 n.old,.slice (some ⟨g,off,none⟩) n.reqs.length aT],.int .i64 0]) (by simp[results,Tryz.results61,go_sem,x0,x1,x2,x3,x4,x5,x6,x7,x8]) rfl ⟨(⟨a_k,iH,dP,dS,(some ⟨g,off,none⟩),aK,bq,aO,aL,aT⟩:bQ),rfl,HAT,lH,qg⟩):P:=h
theorem atO.Ka16(h:P:=by
 clear hW' e4 fu;exact bodyPost_ret (v:= .tuple #[.agg #[.int .i64 n.id,.int .i64 n.par,.slice a_k n.kids.length aK,.int .i64 n.next,.slice iH n.pu.length bq,.slice dP n.out.length aO,.slice dS n.seen.length aL,.int .i64 n.old,.slice (some ⟨g,off,none⟩) n.reqs.length aT],.int .i64 1]) (by simp[results,Tryz.results61,go_sem,x0,x1,x2,x3,x4,x5,x6,x7,x8]) rfl ⟨(⟨a_k,iH,dP,dS,(some ⟨g,off,none⟩),aK,bq,aO,aL,aT⟩:bQ),rfl,HAT,lH,qg⟩):P:=h
theorem Fg(h:P:=by
 open akj in exact Oh):P:=h
theorem atP.Ka17(h:P:=by
 clear h he hR hz hk hpar;open am6 in exact OC):P:=h
theorem atQ.Ka17(h:P:=by
 clear h hR hpar;obtain⟨c0,c1,c2,c3,c4,c5,c6,c7,c8,c9⟩:=iI HW1.blk;have hwl:=aA HW.blk;have hne:wb≠w.heap.size:=by omega
 go_enter Tryz.func46,Tryz.ntmps46
 go_upto_region 1 with fail;have y1:=cell_regrown c1;clear c0 c1 c2 c3 c4 c5 c6 c7 c8 c9;open amf in exact aaq):P:=h
theorem atS.Ka17(h:P:=by
 have hq2:(n.par == -1)=false:=by simpa using hpar
 clear h hR hpar;open am5 in exact OC):P:=h
theorem atT.Ka17(h:P:=by
 have hq2:(n.par == -1)=false:=by simpa using hpar
 clear h hR hpar;generalize eu n n.par k nn=gv at *;obtain⟨gn,gl,gb⟩:=gv;dsimp only at AO ⊢;open am4 in exact OC):P:=h
theorem atU.Ka17(h:P:=by
 open ah0 in exact XM):P:=h
theorem atV.Ka17(h:P:=by
 open ahZ in exact XM):P:=h
theorem atW.Ka17(h:P:=by
 open ahY in exact XM):P:=h
theorem atY.Ka17(h:P:=by
 open am3 in exact OC):P:=h
theorem atZ.Ka17(h:P:=by
 open ahX in exact XM):P:=h
theorem ac8(h:P:=by
 open ah9 in exact PE):P:=h
theorem at6.Ka18(h:P:=by
 go_wp2_with fail;exact bodyPost_ret (v:= .tuple #[tK ⟨0,F,T,0,0,k,N⟩,.bool true]) (by simp[results,Tryz.results102,go_sem,tK]) rfl ⟨by rw [ah HP],kD⟩):P:=h
theorem at7.Ka18(h:P:=by
 go_wp2_with fail;exact bodyPost_ret (v:= .tuple #[tK ⟨0,F,T,0,L,k,N⟩,.bool false]) (by simp[results,Tryz.results102,go_sem,tK]) rfl ⟨by rw [ah HP],kD⟩):P:=h
theorem aua.Ka18(h:P:=by
 exact abz):P:=h
theorem apA(h:P:=by
 have ZA:=hide (fun W (ha:aH W (some ⟨gp,0,none⟩) n.pu)=>KH gp 0 bq n.pu n.reqs[i].k n.reqs[i].n W (Nat.le_trans hz.p (by omega)) qZ hz.pk (hz.rk _ (List.getElem_mem hi)) ha);unfold gX at ZA;rw [hu] at ZA;clear hR hst hz qZ hu;have hp:=fF hok;have Ip:=hide (fun W1 (ha:iD W1 fA n.reqs)=>xH n (⟨a_k,(some ⟨gp,0,none⟩),dP,dS,fA,aK,bq,aO,aL,aT⟩:bQ) no W1 (by omega) hp.1 ha);rw [hJ] at Ip;clear hp hok;unfold gL;have H9:=hide h9;clear h9;have hbw0:=ay w (.cells (fO n (⟨a_k,(some ⟨gp,0,none⟩),dP,dS,fA,aK,bq,aO,aL,aT⟩:bQ)) 30);open al6 in exact Oz):P:=h
theorem aub.Ka19(h:P:=by
 open af6 in exact apE):P:=h
theorem auc.Ka19(h:P:=by
 open af5 in exact apE):P:=h
theorem Pz(h:P:=by
 go_upto_region 1 with fail;have y7:=cell_regrown c7;have z1:=cell_regrown p1;clear c0 c1 c2 c3 c4 c5 c6 c7 c8 c9 p0 p1 p2 p3 p4 p5 p6 p7 p8 p9 mZ;refine gu (by kernel_rfl) ?_;show jq _ _ _ _ 8 (Array.replicate 8 false) _ _
 refine tk [0,1,2,3,4,5,6,7] ?_;iterate 8 (refine Rm (fun K hK=>?_);go_simp;refine hK _ ?_;clear hK K)
 refine kK ?_;refine iO (by kernel_rfl) (fun z hz=>?_);have HZ:=hide (HW1.step hz);have LA:=hide (au rG hz);clear hz y7 z1 HW1 rG;go_simp;exact Ka20):P:=h
theorem aud.Ka20(h:P:=by
 clear h hc;open ajB in exact aqg):P:=h
theorem aue.Ka20(h:P:=by
 open ajX in exact ZF):P:=h
theorem auf.Ka20(h:P:=by
 open ajW in exact ZF):P:=h
theorem aft.Ka20(h:P:=by
 clear h hc;open anz in exact aaM):P:=h
theorem afu.Ka20(h:P:=by
 clear h hc he hz;open ajA in exact aqg):P:=h
theorem afv.Ka20(h:P:=by
 clear h hc;go_wp2_with fail;go_ret;exact⟨rfl,A,G,c,HZ⟩):P:=h
theorem apB(h:P:=by
 obtain⟨⟨p0,p1,p2,p3,p4,p5,p6,p7,p8,p9,mZ⟩,_⟩:=bX Po;have hol:=aA Po;obtain⟨c0,c1,c2,c3,c4,c5,c6,c7,c8⟩:=nine jG;obtain⟨d0,d1,d2,d3,d4,d5,d6,d7,d8⟩:=nine nI;have f0:=aj nI 0;have f1:=aj nI 1;have f2:=aj nI 2;have f3:=aj nI 3;have f4:=aj nI 4;have f5:=aj nI 5;have f6:=aj nI 6;have f7:=aj nI 7;have f8:=aj nI 8;have hnl:=aA jG;have hrl:=aA nI;clear q0;dsimp only at e0;subst e0;go_wp2_with fail;go_quiet (fail);go_wp2_with fail;refine aR (fun W' hW'=>?_)
 have e4:W'.heap[w.heap.size+2]?=some (.cells #[.int .i64 n.id,.int .i64 n.par,.slice a_k n.kids.length aK,.int .i64 n.next,.slice iH n.pu.length bq,.slice dP n.out.length aO,.slice dS n.seen.length aL,.int .i64 n.old,.slice (some ⟨g,off,none⟩) n.reqs.length aT] 30 (0,0)):=by
  rw [hW'];exact GR.setW_blk [.int .i64 n.id,.int .i64 n.par,.slice a_k n.kids.length aK,.int .i64 n.next,.slice iH n.pu.length bq,.slice dP n.out.length aO,.slice dS n.seen.length aL,.int .i64 n.old,.slice (some ⟨g,off,none⟩) n.reqs.length aT] (o:=0) (xs:=[.int .i64 0,.int .i64 0,.slice none 0 0,.int .i64 0,.slice none 0 0,.slice none 0 0,.slice none 0 0,.int .i64 0,.slice none 0 0]) nI
 have fu:aC [w.heap.size+2] W1 W':=by
  rw [hW'];exact aC.trans (b:=W1.drewN nq) ⟨rfl,rfl,rfl,Nat.le_refl _,fun _ _ _=>rfl⟩ (aM [.int .i64 n.id,.int .i64 n.par,.slice a_k n.kids.length aK,.int .i64 n.next,.slice iH n.pu.length bq,.slice dP n.out.length aO,.slice dS n.seen.length aL,.int .i64 n.old,.slice (some ⟨g,off,none⟩) n.reqs.length aT] (W1.drewN nq) 0)
 have HAT:=hide (fun W'' (ho:Out c w W' W'')=>(Ag.kc (k:=9) ((KC.keeps fu (fun x hx=>by have:x=w.heap.size+2:=(by simpa using hx);rw [this];exact aW (by omega))).trans (KC.out H9 ho)) (by omega)).rm);have lH:Hid (Below B w W'):=(HB1.mono hB).trans (fu.below (fun x hx=>by have:x=w.heap.size+2:=(by simpa using hx);omega) (Nat.le_trans hB (HB1.mono hB).size));have qg:=hide (Apart.keeps (c:=c) (Apart.of_below (HB1)) (HB1.mono hB).size fu (fun x hx=>by have:x=w.heap.size+2:=(by simpa using hx);omega));obtain⟨x0,x1,x2,x3,x4,x5,x6,x7,x8⟩:=nine e4;clear hW' e4 fu;exact Ka21):P:=h
theorem afw.Ka21(h:P:=by
 exact bodyPost_ret (v:= .tuple #[.agg #[.int .i64 n.id,.int .i64 n.par,.slice a_k n.kids.length aK,.int .i64 n.next,.slice iH n.pu.length bq,.slice dP n.out.length aO,.slice dS n.seen.length aL,.int .i64 n.old,.slice (some ⟨g,off,none⟩) n.reqs.length aT],.int .i64 0]) (by simp[results,Tryz.results60,go_sem,x0,x1,x2,x3,x4,x5,x6,x7,x8]) rfl ⟨(⟨a_k,iH,dP,dS,(some ⟨g,off,none⟩),aK,bq,aO,aL,aT⟩:bQ),rfl,HAT,lH,qg⟩):P:=h
theorem afx.Ka21(h:P:=by
 exact bodyPost_ret (v:= .tuple #[.agg #[.int .i64 n.id,.int .i64 n.par,.slice a_k n.kids.length aK,.int .i64 n.next,.slice iH n.pu.length bq,.slice dP n.out.length aO,.slice dS n.seen.length aL,.int .i64 n.old,.slice (some ⟨g,off,none⟩) n.reqs.length aT],.int .i64 1]) (by simp[results,Tryz.results60,go_sem,x0,x1,x2,x3,x4,x5,x6,x7,x8]) rfl ⟨(⟨a_k,iH,dP,dS,(some ⟨g,off,none⟩),aK,bq,aO,aL,aT⟩:bQ),rfl,HAT,lH,qg⟩):P:=h
theorem apC(h:P:=by
 open alh in exact SL):P:=h
theorem afy.Ka22(h:P:=by
 have LA:=hide (au Lv hz);clear hz y0 y1 y2 y3 y4 y5 y6 y7 y8 z1 Rc;go_simp;obtain⟨⟨p0,p1,p2,p3,p4,p5,p6⟩,_⟩:=ig LA;have hBz:=aA LA;go_wp2_with fail;refine(AO z HZ).mono ?_;rintro e y ⟨rfl,A',G',c',v',hY⟩;have HY:=hide hY;clear hY AO p0 p1 p2 p3 p4 p5 p6;go_wp2_with fail;go_ret;exact⟨rfl,A',G',c',v',HY⟩):P:=h
theorem afz.Ka22(h:P:=by
 clear hz y0 y1 y2 y3 y4 y5 y6 y7 y8 z1 Rc;exact acf):P:=h
theorem Tz(h:P:=by
 go_upto_region 6 with fail;refine Fo.wp_at (fun V hV=>?_);open amY in exact aaG):P:=h
theorem afA.Ka23(h:P:=by
 open ak5 in exact ZW):P:=h
theorem afB.Ka23(h:P:=by
 open ak4 in exact ZW):P:=h
theorem afC.Ka23(h:P:=by
 open apr in exact abv):P:=h
theorem afD.Ka23(h:P:=by
 clear hblk hV c0 c1 c2 c3;open aot in exact aa5):P:=h
theorem afE.Ka23(h:P:=by
 clear hblk hV c0 c1 c2 c3;open aon in exact aa4):P:=h
theorem ac9(h:P:=by
 obtain⟨rfl,hge⟩:=hcut;have jG:=hide (au Xr hge);have Ih:=hide (au Xk hge);have nI:=hide (au afk hge);have HB1:=hide (HB0.trans (hge.mono HB0.size));have Pn:=hide (Xo.kc (k:=9) (KC.of_below hge) (by omega));have ac6:=hide (Sq.below hge);have hz1:w.heap.size+3≤wc.heap.size:=by have:=aA nI;omega
 obtain⟨t0,t1,t2⟩:=ah HT;have u0:=(hge.cell (p:=⟨G.s,i*3,none⟩) hgs0).trans t0;have u1:=(hge.cell (p:=⟨G.s,i*3+1,none⟩) hgs0).trans t1;have u2:=(hge.cell (p:=⟨G.s,i*3+2,none⟩) hgs0).trans t2;clear t0 t1 t2 hge c0 c1 c2 c3 c4 c5 c6 c7 c8 m0 m1 m2 m3 m4 m5 m6 hnl hml Xr Xk afk HB0 Xo Sq HT;obtain⟨c0,c1,c2,c3,c4,c5,c6,c7,c8⟩:=nine jG;have hnl:=aA jG;have av9:(i:Int) < (n.seen.length:Int):=by omega
 go_upto_region 5 with fail;refine wp_at (fun W2 hW2=>?_);have hb2:=ay wc (.cells #[.int .i64 mF,.int .i64 s0.l,.slice bi s0.ids.length ci] 57);have hs2:=heap_alloc_new wc (.cells #[.int .i64 mF,.int .i64 s0.l,.slice bi s0.ids.length ci] 57);rw [←hW2] at hb2 hs2;obtain⟨sb,hsb⟩:∃sb,wc.heap.size=sb:=⟨_,rfl⟩;rw [hsb] at hs2 hz1;have Pw:=hide hs2;have jg:=hide (au jG hb2);have vN:=hide (au Ih hb2);have iW:=hide (au nI hb2);have HB2:=hide (HB1.trans (hb2.mono HB1.size));have afc:=hide (Pn.kc (k:=9) (KC.of_below hb2) (by omega));have afp:=hide (ac6.below hb2);have hilt:∀x∈fp (G.i i) s0.ids,x < sb:=fun x hx=>by rw [←hsb];exact LQ ac6 x hx
 rw [hsb] at *;clear hW2 hb2 hs2 u0 u1 u2 c0 c1 c2 c3 c4 c5 c6 c7 c8 hnl jG Ih nI HB1 Pn ac6;obtain⟨m0,m1,m2,m3,m4,m5,m6⟩:=iZ vN;obtain⟨s00,s01,s02⟩:=yX Pw;have sf:=aj Pw 1;have hml:=aA vN;have hsl2:=aA Pw;go_upto_if 35 with fail;exact Ka24):P:=h
theorem afF.Ka24(h:P:=by
 go_cut [8] from 15 (fun p wx=>p= .pointer (some ⟨sb,0,none⟩)∧wx.heap[sb]?=some (.cells #[.int .i64 mF,.int .i64 (bY s0 mL),.slice bi s0.ids.length ci] 57 (0,0))∧aC [sb] W2 wx)
 case first=>
  exact adu
 case rest=>
  open agy in exact ada):P:=h
theorem afG.Ka24(h:P:=by
 go_cut [8] from 15 (fun p wx=>p= .pointer (some ⟨sb,0,none⟩)∧wx.heap[sb]?=some (.cells #[.int .i64 mF,.int .i64 (bY s0 mL),.slice bi s0.ids.length ci] 57 (0,0))∧aC [sb] W2 wx)
 case first=>
  exact adu
 case rest=>
  open agx in exact ada):P:=h
theorem afH.Ka24(h:P:=by
 go_cut [8] from 15 (fun p wx=>p= .pointer (some ⟨sb,0,none⟩)∧wx.heap[sb]?=some (.cells #[.int .i64 mF,.int .i64 (bY s0 mL),.slice bi s0.ids.length ci] 57 (0,0))∧aC [sb] W2 wx)
 case first=>
  exact adu
 case rest=>
  open agw in exact ada):P:=h
theorem apD(h:P:=by
 clear Ju;refine gW 0 rfl (by kernel_rfl) (by rfl) (by decide) (fun x2 hx2=>?_);go_simp;have rR:=hide (vM.trans (hx2.mono vM.size));have rY:wc.heap.size≤x2.heap.size:=rR.size;have ac3:=hide (au Xx hx2);clear hx2;refine⟨(ay x2 _).mono rY,?_⟩;have CS:=ay x2 (.cells #[] 43);have CP:=hide (show(x2.alloc (.cells #[] 43)).ownsRow wc.heap.size 43 4 (.slice (some ⟨x2.heap.size,0,none⟩) 0 0) 0 (GR.flat aJ []) from World.ownsRow_lit (base:=wc.heap.size) (e:=43) (size:=4) x2 #[] 0 rY (by unfold maxLen;omega) (by simp));open amo in exact aat):P:=h
theorem afI.Ka25(h:P:=by
 have CF:=hide (show y3.heap[x1.heap.size]?=some (.cells #[.int .i64 no,.string k,.int .i64 nn,.int .i64 0] 43 (0,0)) from by rw [uR.block _ (aA (ah uK)) (fun hm=>ah EW _ hm.symm rfl)];exact uK);open anr in exact Tg):P:=h
theorem afJ.Ka25(h:P:=by
 have CF:=hide (show y3.heap[x1.heap.size]?=some (.cells #[.int .i64 no,.string k,.int .i64 nn,.int .i64 1] 43 (0,0)) from by rw [uR.block _ (aA (ah uK)) (fun hm=>ah EW _ hm.symm rfl)];exact uK);open anq in exact Tg):P:=h
theorem Fh(h:P:=by
 have y0:=cell_regrown c0;have y1:=cell_regrown c1;have y2:=cell_regrown c2;have y3:=cell_regrown c3;have y4:=cell_regrown c4;have y5:=cell_regrown c5;have y6:=cell_regrown c6;have y7:=cell_regrown c7;have y8:=cell_regrown c8;exact Ka26):P:=h
theorem afK.Ka26(h:P:=by
 have x0:=cell_regrown d0;have x1:=cell_regrown d1;have x2:=cell_regrown d2;have x3:=cell_regrown d3;clear c0 c1 c2 c3 c4 c5 c6 c7 c8 c9 d0 d1 d2 d3 HR3;refine bJ 7 (by kernel_rfl) ?_;show dZ _ _ _ _ _ 8 (Array.replicate 8 false) _ _
 refine tk [0,1,2,3,4,5] ?_;iterate 6 (refine oJ (fun K hK=>?_);go_simp;refine hK _ ?_;clear hK K)
 refine kK ?_;refine sZ 6 20 rfl (by kernel_rfl) (by kernel_rfl) (by kernel_rfl) (by kernel_rfl) (by kernel_rfl) (fun _ _ _ _ h=>h) (fun K hK=>?_);go_simp
 first
  |(refine hK _ ?_;clear hK K)
  |(apply Exists.intro
    refine⟨fun _=>?_,hK _ ?_⟩
    (exact asw _)
    clear hK K)
 clear y0 y1 y2 y3 y4 y5 y6 y7 y8 x0 x1 x2 x3;refine aZ (by kernel_rfl) (fun x hx=>?_);have Em:=hide (En x cc vv k hk ⟨qK,qF,qT,qI,qL,qk,qN⟩ HKk (IC.step hx));clear hx IC;refine aF 7 rfl (by kernel_rfl) (by rfl) ?_;go_simp;refine Em.mono ?_;rintro e y ⟨rfl,c',v',hY⟩;have HY:=hide hY;clear hY Em;refine wpAny_done (by kernel_rfl) ?_;go_simp;go_wp2_with fail;go_roundw
 case rel=>exact⟨k+1,c',v',by omega,by go_num,by rw [ah HT];exact HY⟩
 case measure=>simp[intOf];omega):P:=h
theorem afL.Ka26(h:P:=by
 have z1:=cell_regrown p1;have z2:=cell_regrown p2;clear c0 c1 c2 c3 c4 c5 c6 c7 c8 c9 p0 p1 p2 p3 p4 p5 p6 rG HW1;by_cases hT:mT=n.id
 ·have hq:(mT == n.id)=true:=by simpa using hT
  have HD:=hide (show(decide (mT=n.id)&&nb)=nb by rw [decide_eq_true hT];rfl);exact aqC
 ·have hq:(mT == n.id)=false:=by simpa using hT
  have HD:=hide (show(decide (mT=n.id)&&nb)=false by rw [decide_eq_false hT];rfl);exact aqC):P:=h
theorem afM.Ka26(h:P:=by
 have z1:=cell_regrown p1;clear c0 c1 c2 c3 c4 c5 c6 c7 c8 c9 p0 p1 p2 p3 p4 p5 p6;refine gu (by kernel_rfl) ?_;show jq _ _ _ _ 8 (Array.replicate 8 false) _ _
 refine tk [0,1,2,3,4,5] ?_;iterate 6 (refine Rm (fun K hK=>?_);go_simp;refine hK _ ?_;clear hK K)
 refine kK ?_;refine vJ 6 rfl (by kernel_rfl) (by kernel_rfl) (by kernel_rfl) (fun _ _ _ _ h=>h) (fun K hK=>?_);go_simp
 first
  |(refine hK _ ?_;clear hK K)
  |(apply Exists.intro
    refine⟨fun _=>?_,hK _ ?_⟩
    (exact HKD _ (Rc _))
    clear hK K)
 refine tk [7] ?_;(refine Rm (fun K hK=>?_);go_simp;refine hK _ ?_;clear hK K)
 refine kK ?_;refine iO (by kernel_rfl) (fun z hz=>?_);have HZ:=hide (HW1.step hz);exact Ka22):P:=h
theorem afN.Ka26(h:P:=by
 have hnl:=aA kS;have hnr:=aA iX;have hnq:=aA zN;clear c0 c1 c2 c3 c4 c5 c6 c7 c8;go_cut [5] from 11 (fun cd wx=>cd= .int .i64 0∧wx.heap[w.heap.size+2]?=some (.cells #[.int .i64 n.id,.int .i64 n.par,.slice a_k n.kids.length aK,.int .i64 n.next,.slice av RL.length cv,.slice dP n.out.length aO,.slice dS n.seen.length aL,.int .i64 n.old,.slice (some ⟨gv,0,none⟩) (n.reqs.length+1) vc] 30 (0,0))∧aC [w.heap.size+2] wc wx)
 case first=>
  open aiP in exact XP
 case rest=>
  open anY in exact aaT):P:=h
theorem afO.Ka26(h:P:=by
 have hnl:=aA uJ;have hnr:=aA jV;have hnq:=aA E9;clear c0 c1 c2 c3 c4 c5 c6 c7 c8;go_cut [5] from 11 (fun cd wx=>cd= .int .i64 0∧wx.heap[w.heap.size+2]?=some (.cells #[.int .i64 n.id,.int .i64 n.par,.slice a_k n.kids.length aK,.int .i64 n.next,.slice av RL.length cv,.slice dP n.out.length aO,.slice dS n.seen.length aL,.int .i64 IH.no,.slice (some ⟨g8,0,none⟩) n.reqs.length Ba] 30 (0,0))∧aC [w.heap.size+2] W9 wx)
 case first=>
  open aiO in exact XP
 case rest=>
  open an0 in exact aaU):P:=h
theorem afP.Ka26(h:P:=by
 have hnl:=aA kS;have hnr:=aA iX;have hnq:=aA zN;clear c0 c1 c2 c3 c4 c5 c6 c7 c8;go_cut [5] from 11 (fun cd wx=>cd= .int .i64 1∧wx.heap[w.heap.size+2]?=some (.cells #[.int .i64 n.id,.int .i64 n.par,.slice a_k n.kids.length aK,.int .i64 n.next,.slice (some ⟨gp,0,none⟩) n.pu.length bq,.slice dP n.out.length aO,.slice dS n.seen.length aL,.int .i64 n.old,.slice (some ⟨gv,0,none⟩) (n.reqs.length+1) vc] 30 (0,0))∧aC [w.heap.size+2] wc wx)
 case first=>
  open aiN in exact XP
 case rest=>
  open anX in exact aaT):P:=h
theorem afQ.Ka26(h:P:=by
 have hnl:=aA uJ;have hnr:=aA jV;have hnq:=aA E9;clear c0 c1 c2 c3 c4 c5 c6 c7 c8;go_cut [5] from 11 (fun cd wx=>cd= .int .i64 1∧wx.heap[w.heap.size+2]?=some (.cells #[.int .i64 n.id,.int .i64 n.par,.slice a_k n.kids.length aK,.int .i64 n.next,.slice (some ⟨gp,0,none⟩) n.pu.length bq,.slice dP n.out.length aO,.slice dS n.seen.length aL,.int .i64 IH.no,.slice (some ⟨g8,0,none⟩) n.reqs.length Ba] 30 (0,0))∧aC [w.heap.size+2] W9 wx)
 case first=>
  open aiM in exact XP
 case rest=>
  open anZ in exact aaU):P:=h
theorem afR.Ka26(h:P:=by
 clear c0 c1 c2 c3 c4 c5 c6 c7 c8;refine bJ 3 (by kernel_rfl) ?_;show dZ _ _ _ _ _ 6 (Array.replicate 6 false) _ _
 refine tk [0,1] ?_;iterate 2 (refine oJ (fun K hK=>?_);go_simp;refine hK _ ?_;clear hK K)
 refine kK ?_;clear y0 y1 y2 y3 y4 y5 y6 y7 y8;refine dK 2 rfl (by kernel_rfl) (by rfl) (fun x hx=>?_);go_simp;refine(jr x A1 (xZ.at.below hx)).mono ?_;rintro e y ⟨ma,mc,rfl,g,hmw,hml,hby⟩;refine⟨hby,?_⟩;have HY:=hide (Ge.trans hx hby);have hxs:=hx.size;clear hx hby jr fP HOX p0 p1 p2 p3 p4 p5 p6 p7 p8 p9 mZ hnl hol;refine aZ (by kernel_rfl) (fun z hz=>?_);have HZ:=hide (Ge.trans HY hz);have Iq:=hide (au qb HZ);have tZ:=hide (kR.trans (HZ.mono kR.size));have Cz:=hide (xZ.kc (k:=9) (KC.of_below HZ) (by omega));have P9:∀x'∈fp g L1,(fun q=>if q≤w.heap.size+2 then 9 else 0) x'=0:=fun x' hx'=>if_neg (by have:=(hml x' hx').1;have:=aA qb;omega)
 have HMW:=hide ((KC.of_below (c:=fun q=>if q≤w.heap.size+2 then 9 else 0) (k:=9) hz).w hmw P9 (by omega));have ae0:=hide P9;clear hz P9 hmw hml HY HZ xZ kR qb;obtain⟨d0,d1,d2,d3,d4,d5,d6,d7,d8⟩:=nine Iq;have f0:=aj Iq 0;have f1:=aj Iq 1;have f2:=aj Iq 2;have f3:=aj Iq 3;have f4:=aj Iq 4;have f5:=aj Iq 5;have f6:=aj Iq 6;have f7:=aj Iq 7;have f8:=aj Iq 8;have hrl:=aA Iq;refine aF 3 rfl (by kernel_rfl) (by rfl) ?_;go_simp;refine aF 4 rfl (by kernel_rfl) (by rfl) ?_;go_simp;refine aF 5 rfl (by kernel_rfl) (by rfl) ?_;go_simp;refine wpAny_done (by kernel_rfl) ?_;go_simp;clear d0 d1 d2 d3 d4 d5 d6 d7 d8 f0 f1 f2 f3 f4 f5 f6 f7 f8 hrl;go_wp2_with fail;refine aR (fun W' hW'=>?_)
 have e4:W'.heap[w.heap.size+2]?=some (.cells #[.int .i64 n.id,.int .i64 n.par,.slice A1.k n.kids.length A1.ck,.int .i64 n.next,.slice A1.p n.pu.length A1.cp,.slice A1.o n.out.length A1.co,.slice A1.s n.seen.length A1.cs,.int .i64 n.old,.slice A1.r n.reqs.length A1.cr] 30 (0,0)):=by
  rw [hW'];exact GR.setW_blk [.int .i64 n.id,.int .i64 n.par,.slice A1.k n.kids.length A1.ck,.int .i64 n.next,.slice A1.p n.pu.length A1.cp,.slice A1.o n.out.length A1.co,.slice A1.s n.seen.length A1.cs,.int .i64 n.old,.slice A1.r n.reqs.length A1.cr] (o:=0) (xs:=[.int .i64 0,.int .i64 0,.slice none 0 0,.int .i64 0,.slice none 0 0,.slice none 0 0,.slice none 0 0,.int .i64 0,.slice none 0 0]) Iq
 have fu:aC [w.heap.size+2] z W':=by
  rw [hW'];exact aM [.int .i64 n.id,.int .i64 n.par,.slice A1.k n.kids.length A1.ck,.int .i64 n.next,.slice A1.p n.pu.length A1.cp,.slice A1.o n.out.length A1.co,.slice A1.s n.seen.length A1.cs,.int .i64 n.old,.slice A1.r n.reqs.length A1.cr] z 0
 have WB:=hide ((KC.keeps (c:=fun q=>if q≤w.heap.size+2 then 9 else 0) (k:=9) fu (fun x hx=>if_pos (by have:x=w.heap.size+2:=(by simpa using hx);omega))).w HMW ae0 (by omega));have HAT:=hide (fun W'' (ho:zD w W' W'')=>((Cz.kc (k:=9) (KC.keeps fu (fun x hx=>by have:x=w.heap.size+2:=(by simpa using hx);rw [this];exact oH)) (by omega)).kc (k:=9) (ho.kc (fun x hx=>Rv x (by omega))) (by omega)).rm);have lH:Hid (Below w.heap.size w W'):=tZ.trans (fu.below (fun x hx=>by have:x=w.heap.size+2:=(by simpa using hx);omega) tZ.size);obtain⟨x0,x1,x2,x3,x4,x5,x6,x7,x8⟩:=nine e4;clear hW' e4 fu;exact bodyPost_ret (v:= .tuple #[.agg #[.int .i64 n.id,.int .i64 n.par,.slice A1.k n.kids.length A1.ck,.int .i64 n.next,.slice A1.p n.pu.length A1.cp,.slice A1.o n.out.length A1.co,.slice A1.s n.seen.length A1.cs,.int .i64 n.old,.slice A1.r n.reqs.length A1.cr],.slice ma L1.length mc,.int .i64 0]) (by simp[results,Tryz.results30,go_sem,x0,x1,x2,x3,x4,x5,x6,x7,x8]) rfl ⟨A1,ma,⟨mc,rfl⟩,HAT,fun W'' ho=>((ho.kc (c:=fun q=>if q≤w.heap.size+2 then 9 else 0) (k:=9) (fun x hx=>if_pos (by omega))).w WB ae0 (by omega)).at,lH⟩):P:=h
theorem afS.Ka26(h:P:=by
 have x0:=cell_regrown s0;have x1:=cell_regrown s1;have x2:=cell_regrown s2;have x3:=cell_regrown s3;have hnz:=aA Ik;have hsz:=aA XF;clear c0 c1 c2 c3 c4 c5 c6 c7 c8 s0 s1 s2 s3;refine tq 5 (by kernel_rfl) ?_;show jc _ _ _ _ _ 8 (Array.replicate 8 false) _ _
 refine tk [0,1,2] ?_;iterate 3 (refine tkF (fun K hK=>?_);go_simp;refine hK _ ?_;clear hK K)
 refine kK ?_;clear y0 y1 y2 y3 y4 y5 y6 y7 y8 x0 x1 x2 x3 hnz hsz Ik XF;refine Nv 3 rfl (by kernel_rfl) (by rfl) (by decide) (fun x hx=>?_);go_simp;refine(AO x hx).mono ?_;rintro e y ⟨rfl,hby⟩;refine⟨hby,?_⟩;have HY:=hide (Ge.trans hx hby);clear hx hby AO;refine iN 4 rfl rfl (by kernel_rfl) (by rfl) (by rfl) (by decide) (fun z hz=>?_) (fun z hz=>?_)
 ·have HZ:=hide (Ge.trans HY hz);clear hz HY;go_simp;refine⟨ay z _,?_⟩;refine xP (by kernel_rfl) (fun z2 hz2=>?_);have HZ2:=hide (Ge.trans HZ (Ge.trans (ay z _) hz2));have HM2:=hide (au (heap_alloc_new z (.cells #[.int .i64 qK,.int .i64 qF,.int .i64 qT,.int .i64 qI,.int .i64 qL,.string qk,.int .i64 qN] 32)) hz2);have uL:=hide (au ac4 HZ2);have hmz:w.heap.size+1 < z.heap.size:=Nat.lt_of_lt_of_le (aA ac4) HZ.size;clear hz2;open alv in exact Z5
 ·have HZ:=hide (Ge.trans HY hz);have uL:=hide (au ac4 HZ);clear hz HY;open alu in exact Z5):P:=h
theorem AR(h:P:=by
 rw [hop] at NY;unfold jY at NY;clear hop;open aoZ in exact abl):P:=h
theorem afT.Ka27(h:P:=by
 open aip in exact apY):P:=h
theorem afU.Ka27(h:P:=by
 obtain⟨e1,e2,e3,e4⟩:=fJ w (.cells (fO n A) 30) (.cells #[.int .i64 2,.int .i64 no,.string k,.int .i64 nn,.int .i64 mK,.int .i64 mF,.int .i64 mT,.int .i64 mI,.int .i64 mL,.string mk,.int .i64 mN] 34) (.cells iV 30);have hsz:(((w.alloc (.cells (fO n A) 30)).alloc (.cells #[.int .i64 2,.int .i64 no,.string k,.int .i64 nn,.int .i64 mK,.int .i64 mF,.int .i64 mT,.int .i64 mI,.int .i64 mL,.string mk,.int .i64 mN] 34)).alloc (.cells iV 30)).heap.size=w.heap.size+3:=by simp
 generalize hW0:((w.alloc (.cells (fO n A) 30)).alloc (.cells #[.int .i64 2,.int .i64 no,.string k,.int .i64 nn,.int .i64 mK,.int .i64 mF,.int .i64 mT,.int .i64 mI,.int .i64 mL,.string mk,.int .i64 mN] 34)).alloc (.cells iV 30)=W0 at *;exact Za4):P:=h
theorem afV.Ka27(h:P:=by
 obtain⟨e1,e2,e3,e4⟩:=fJ w (.cells (fO n A) 30) (.cells #[.int .i64 1,.int .i64 no,.string k,.int .i64 nn,.int .i64 mK,.int .i64 mF,.int .i64 mT,.int .i64 mI,.int .i64 mL,.string mk,.int .i64 mN] 34) (.cells iV 30);have hsz:(((w.alloc (.cells (fO n A) 30)).alloc (.cells #[.int .i64 1,.int .i64 no,.string k,.int .i64 nn,.int .i64 mK,.int .i64 mF,.int .i64 mT,.int .i64 mI,.int .i64 mL,.string mk,.int .i64 mN] 34)).alloc (.cells iV 30)).heap.size=w.heap.size+3:=by simp
 generalize hW0:((w.alloc (.cells (fO n A) 30)).alloc (.cells #[.int .i64 1,.int .i64 no,.string k,.int .i64 nn,.int .i64 mK,.int .i64 mF,.int .i64 mT,.int .i64 mI,.int .i64 mL,.string mk,.int .i64 mN] 34)).alloc (.cells iV 30)=W0 at *;exact Za4):P:=h
theorem afW.Ka27(h:P:=by
 open air in exact apZ):P:=h
theorem afX.Ka27(h:P:=by
 obtain⟨e1,e2,e3,e4⟩:=fJ w (.cells (fO n A) 30) (.cells #[.int .i64 6,.int .i64 no,.string k,.int .i64 nn,.int .i64 mK,.int .i64 mF,.int .i64 mT,.int .i64 mI,.int .i64 mL,.string mk,.int .i64 mN] 34) (.cells iV 30);have hsz:(((w.alloc (.cells (fO n A) 30)).alloc (.cells #[.int .i64 6,.int .i64 no,.string k,.int .i64 nn,.int .i64 mK,.int .i64 mF,.int .i64 mT,.int .i64 mI,.int .i64 mL,.string mk,.int .i64 mN] 34)).alloc (.cells iV 30)).heap.size=w.heap.size+3:=by simp
 generalize hW0:((w.alloc (.cells (fO n A) 30)).alloc (.cells #[.int .i64 6,.int .i64 no,.string k,.int .i64 nn,.int .i64 mK,.int .i64 mF,.int .i64 mT,.int .i64 mI,.int .i64 mL,.string mk,.int .i64 mN] 34)).alloc (.cells iV 30)=W0 at *;exact Za8):P:=h
theorem afY.Ka27(h:P:=by
 open aiq in exact apZ):P:=h
theorem afZ.Ka27(h:P:=by
 open ait in exact ap0):P:=h
theorem af0.Ka27(h:P:=by
 open aiv in exact ap1):P:=h
theorem af2.Ka27(h:P:=by
 obtain⟨e1,e2,e3,e4⟩:=fJ w (.cells (fO n A) 30) (.cells #[.int .i64 5,.int .i64 no,.string k,.int .i64 nn,.int .i64 mK,.int .i64 mF,.int .i64 mT,.int .i64 mI,.int .i64 mL,.string mk,.int .i64 mN] 34) (.cells iV 30);have hsz:(((w.alloc (.cells (fO n A) 30)).alloc (.cells #[.int .i64 5,.int .i64 no,.string k,.int .i64 nn,.int .i64 mK,.int .i64 mF,.int .i64 mT,.int .i64 mI,.int .i64 mL,.string mk,.int .i64 mN] 34)).alloc (.cells iV 30)).heap.size=w.heap.size+3:=by simp
 generalize hW0:((w.alloc (.cells (fO n A) 30)).alloc (.cells #[.int .i64 5,.int .i64 no,.string k,.int .i64 nn,.int .i64 mK,.int .i64 mF,.int .i64 mT,.int .i64 mI,.int .i64 mL,.string mk,.int .i64 mN] 34)).alloc (.cells iV 30)=W0 at *;open atE in exact Fe):P:=h
theorem af3.Ka27(h:P:=by
 open ais in exact ap0):P:=h
theorem af4.Ka27(h:P:=by
 open aiu in exact ap1):P:=h
theorem apE(h:P:=by
 generalize n.reqs[i].n=qn at *;go_upto_region 8 with fail;have y4:=cell_regrown c4;have y8:=cell_regrown c8;have z1:=cell_regrown q1;have z2:=cell_regrown q2;clear c0 c1 c2 c3 c4 c5 c6 c7 c8 d0 d1 d2 d3 d4 d5 d6 d7 d8 f0 f1 f2 f3 f4 f5 f6 f7 f8 q0 q1 q2 q3;refine gu (by kernel_rfl) ?_;show jq _ _ _ _ 20 (Array.replicate 20 false) _ _
 refine tk [0,1,2,3,4,5,6,7,8,9,10,11,12,13] ?_;iterate 14 (refine Rm (fun K hK=>?_);go_simp;refine hK _ ?_;clear hK K)
 refine kK ?_;clear y4 y8 z1 z2;refine Q5 14 rfl (by kernel_rfl) (by rfl) (fun x hx=>?_);go_simp;refine(ZA x (GR.At.below Ag.at.p hx)).mono ?_;rintro e y ⟨v,rfl,hne,hrow,hby⟩;refine⟨hby,?_⟩;obtain⟨av,cv,rfl,_⟩:=GR.own_at (enc:=eG) (sz:=4) aV hrow;have HRW:=hide hrow;have HXY:=hide (Ge.trans hx hby);have hxs:=hx.size;clear hx hby hne hrow ZA;refine tk [15,16,17,18,19] ?_;iterate 5 (refine Rm (fun K hK=>?_);go_simp;refine hK _ ?_;clear hK K)
 refine kK ?_;refine iO (by kernel_rfl) (fun z hz=>?_);have HZ:=hide (Ge.trans HXY hz);have Iq:=hide (GR.own_below HRW hz);have Ik:=hide (au jG HZ);have yg:=hide (au qb HZ);have Cz:=hide (Ag.kc (k:=9) (KC.of_below HZ) (by omega));have tZ:=hide (HB1.trans (HZ.mono HB1.size));have hgz:g < z.heap.size:=Nat.lt_of_lt_of_le hg HZ.size;clear hz HXY HRW;go_simp;obtain⟨c0,c1,c2,c3,c4,c5,c6,c7,c8⟩:=nine Ik;obtain⟨d0,d1,d2,d3,d4,d5,d6,d7,d8⟩:=nine yg;have f0:=aj yg 0;have f1:=aj yg 1;have f2:=aj yg 2;have f3:=aj yg 3;have f4:=aj yg 4;have f5:=aj yg 5;have f6:=aj yg 6;have f7:=aj yg 7;have f8:=aj yg 8;have hnl:=aA Ik;have hrl:=aA yg;exact Ka28):P:=h
theorem af5.Ka28(h:P:=by
 go_wp2_with fail;refine aR (fun W' hW'=>?_)
 have e4:W'.heap[w.heap.size+1]?=some (.cells #[.int .i64 n.id,.int .i64 n.par,.slice a_k n.kids.length aK,.int .i64 n.next,.slice (some ⟨gp,0,none⟩) n.pu.length bq,.slice dP n.out.length aO,.slice dS n.seen.length aL,.int .i64 n.old,.slice (some ⟨g,0,none⟩) n.reqs.length aT] 30 (0,0)):=by
  rw [hW'];exact GR.setW_blk [.int .i64 n.id,.int .i64 n.par,.slice a_k n.kids.length aK,.int .i64 n.next,.slice (some ⟨gp,0,none⟩) n.pu.length bq,.slice dP n.out.length aO,.slice dS n.seen.length aL,.int .i64 n.old,.slice (some ⟨g,0,none⟩) n.reqs.length aT] (o:=0) (xs:=[.int .i64 0,.int .i64 0,.slice none 0 0,.int .i64 0,.slice none 0 0,.slice none 0 0,.slice none 0 0,.int .i64 0,.slice none 0 0]) yg
 have fu:aC [w.heap.size+1] z W':=by
  rw [hW'];exact aM [.int .i64 n.id,.int .i64 n.par,.slice a_k n.kids.length aK,.int .i64 n.next,.slice (some ⟨gp,0,none⟩) n.pu.length bq,.slice dP n.out.length aO,.slice dS n.seen.length aL,.int .i64 n.old,.slice (some ⟨g,0,none⟩) n.reqs.length aT] z 0
 have HAT:=hide (fun W'' (ho:Out c w W' W'')=>(Cz.kc (k:=9) ((KC.keeps fu (fun x hx=>by have:x=w.heap.size+1:=(by simpa using hx);rw [this];exact aW (by omega))).trans (KC.out H9 ho)) (by omega)).rm);have lH:Hid (Below B w W'):=(tZ.mono hB).trans (fu.below (fun x hx=>by have:x=w.heap.size+1:=(by simpa using hx);omega) (Nat.le_trans hB (tZ.mono hB).size));have qg:=hide (Apart.keeps (c:=c) (Apart.of_below tZ) (tZ.mono hB).size fu (fun x hx=>by have:x=w.heap.size+1:=(by simpa using hx);omega));obtain⟨x0,x1,x2,x3,x4,x5,x6,x7,x8⟩:=nine e4;clear hW' e4 fu;exact bodyPost_ret (v:= .tuple #[.agg #[.int .i64 n.id,.int .i64 n.par,.slice a_k n.kids.length aK,.int .i64 n.next,.slice (some ⟨gp,0,none⟩) n.pu.length bq,.slice dP n.out.length aO,.slice dS n.seen.length aL,.int .i64 n.old,.slice (some ⟨g,0,none⟩) n.reqs.length aT],.int .i64 1]) (by simp[results,Tryz.results61,go_sem,x0,x1,x2,x3,x4,x5,x6,x7,x8]) rfl ⟨(⟨a_k,(some ⟨gp,0,none⟩),dP,dS,(some ⟨g,0,none⟩),aK,bq,aO,aL,aT⟩:bQ),rfl,HAT,lH,qg⟩):P:=h
end Go.Proofs.YtfmdndhliinhpaaGreatDoor
