/-
  Parts of proofs that stand more than once, each said once.
-/
import Derived.Test.YtacgbldlonoaaaaGreatDoorRows
import Derived.WalkSpells
import Derived.ShutString
import Derived.Lib.QuietBelow
import Derived.Laws.Cover1
import Derived.Laws.AppendOwnNone
import Derived.Deep.DeepCutAuto
import Derived.Deep.CutBlock
import Derived.Shelf.Spec.SearchS
import Derived.Deep.RegionHeldLaw
import Derived.Deep.AppendLies
import Derived.Lib.BufferWrite
import Derived.Laws.CopyOwn
import Derived.Lib.ItoaLen
import Derived.Shelf.SortM.Plain
import Derived.Shelf.SortM.SortNone
import Derived.Shelf.SlicesE.Clone
import Derived.Sort.OwnSortedInts
import Derived.Stop.Asserts
import Derived.RowKitTokens
import Derived.Shelf.Spec.SlicesInsertGrow
import Derived.Maps.Ext
import Derived.Lib.SlMapFilter
import Derived.Shelf.SlIterI.Nil
import Derived.Laws.EntriesVeiled
namespace Go.Proofs.YtacgbldlonoaaaaGreatDoor
set_option maxRecDepth 100000
variable{P:Prop}
theorem amX(h:P:=by
 rw [hW'];exact GR.setW_blk [.int .i64 n.id,.int .i64 n.par,.slice A.k n.kids.length A.ck,.int .i64 n.next,.slice A.p n.pu.length A.cp,.slice A.o n.out.length A.co,.slice A.s n.seen.length A.cs,.int .i64 n.old,.slice A.r n.reqs.length A.cr] (o:=0) (xs:=[.int .i64 0,.int .i64 0,.slice none 0 0,.int .i64 0,.slice none 0 0,.slice none 0 0,.slice none 0 0,.int .i64 0,.slice none 0 0]) qB):P:=h
theorem Za0(h:P:=by
 unfold dZ;have H9:=hide h9;clear h9;have CP:=hide (fun W (ha:aH W A.p n.pu)=>qX A.p A.cp n.pu key W hl ha);rw [hpp] at CP;unfold wI at CP;clear hpp;have hbw0:=au w (.cells (fZ n A) 30);have jY:=hide (h.nine hB);clear h;go_enter Tryz.func42,Tryz.ntmps42
 go_upto_region 1 with fail;refine wp_at (fun W0 hW=>?_);obtain⟨e1,e2,e3⟩:=jo w (.cells (fZ n A) 30) (.cells iO 30);open agt in exact amu):P:=h
theorem Za1(h:P:=by
 open ajJ in exact Ya):P:=h
theorem Za2(h:P:=by
 open ajI in exact Ya):P:=h
theorem Za3(h:P:=by
 refine gL 8 rfl (by kernel_rfl) (by rfl) (by decide) (fun x4 hx4=>?_);have PI:=hide (MI.trans (hx4.mono MI.size));have GX:qc.heap.size≤x4.heap.size:=PI.size;have Gb:=hide (GR.own_below Nf hx4);have ze:=hide (aj AX hx4);clear hx4;obtain⟨v4,y4,NK,J8,zC,RY⟩:=fu x4 qc.heap.size 24 24 3 i0 (.int .i64 0) 1 8 Tryz.underlying24 hi0 hz0 hz1' hz2 rfl (by decide) (.slice avR (pos) cvR) (pos) (GR.flat aR ((aW s0 mL).take pos)) Gb ⟨rb,0,none⟩ 1 1 (aR mI) rfl (World.news_of_block ze) (by intro u hu;simp at hu;subst hu;rfl) (by unfold maxLen;omega) (by omega) GX;refine Lib.wp_append_run x4 (.tmp 131) (.tmp 134) 24 24 rfl _ _ (by simp[Act.eval]) (by simp[Act.eval]) v4 y4 NK ?_;refine⟨(Below.refl _ _).grown zC GX (fun b hb=>(Gb.lt b hb).1),?_⟩;go_simp;have PK:=hide (PI.grown zC GX (fun b hb=>(Gb.lt b hb).1));have JI:Hid (y4.ownsRow qc.heap.size 3 1 v4 (pos+1) (GR.flat aR ((aW s0 mL).take pos++[mI]))):=hide (by rw [GR.flat_append,GR.flat_one];exact J8);have UO:=hide (show y4.heap[rb]?=some (.cells #[.int .i64 mI] 3 (0,0)) from by rw [zC.block _ (aA (ah ze)) (fun hm=>ah MH _ hm.symm rfl)];exact ze);open akz in exact QA):P:=h
theorem apX(h:P:=by
 rw [hX];exact GR.setW_blk [.int .i64 n.id,.int .i64 n.par,.slice A1.k n.kids.length A1.ck,.int .i64 n.next,.slice A1.p n.pu.length A1.cp,.slice A1.o n.out.length A1.co,.slice A1.s n.seen.length A1.cs,.int .i64 n.old,.slice A1.r n.reqs.length A1.cr] (o:=0) (xs:=[.int .i64 n.id,.int .i64 n.par,.slice A.k n.kids.length A.ck,.int .i64 n.next,.slice A.p n.pu.length A.cp,.slice A.o n.out.length A.co,.slice A.s n.seen.length A.cs,.int .i64 n.old,.slice A.r n.reqs.length A.cr]) jC):P:=h
theorem apY(h:P:=by
 rw [hX];exact aL [.int .i64 n.id,.int .i64 n.par,.slice A1.k n.kids.length A1.ck,.int .i64 n.next,.slice A1.p n.pu.length A1.cp,.slice A1.o n.out.length A1.co,.slice A1.s n.seen.length A1.cs,.int .i64 n.old,.slice A1.r n.reqs.length A1.cr] W3 0):P:=h
theorem Za4(h:P:=by
 open apm in exact DW):P:=h
theorem Za5(h:P:=by
 clear hu;unfold gM at iN;have Lj:=hide (fun W=>iW ⟨0,no,k,nn,⟨mK,mF,mT,mI,mL,mk,mN⟩⟩ W (by unfold maxLen;dsimp only;omega) (by unfold maxLen;dsimp only;omega));open adr in exact zf):P:=h
theorem Za6(h:P:=by
 clear AU rR HKZ Pe;obtain⟨c0,c1,c2,c3,c4,c5,c6,c7,c8⟩:=nine FV;obtain⟨s0,s1,s2,s3⟩:=eY UZ;open adf in exact DY):P:=h
theorem Za7(h:P:=by
 have hnl:=aA e1;clear hW e1 e2 p0 p1 p2 p3 p4 p5 p6 p7 p8 p9 lT;obtain⟨⟨p0,p1,p2,p3,p4,p5,p6,p7,p8,p9,lT⟩,_⟩:=dP MZ;have arZ:=aA MZ;have y0:=cell_regrown c0;have z0:=cell_regrown p0;have z1:=cell_regrown p1;have z2:=cell_regrown p2;have z3:=cell_regrown p3;have z4:=cell_regrown p4;have z5:=cell_regrown p5;have z6:=cell_regrown p6;have z7:=cell_regrown p7;have z8:=cell_regrown p8;have z9:=cell_regrown p9;have z10:=cell_regrown lT;clear p0 p1 p2 p3 p4 p5 p6 p7 p8 p9 lT c0;refine bn 5 (by kernel_rfl) ?_;show dS _ _ _ _ _ 7 (Array.replicate 7 false) _ _
 refine tk [0,1,2,3,4] ?_;iterate 5 (refine nQ (fun K hK=>?_);go_simp;refine hK _ ?_;clear hK K)
 refine jI ?_;clear y0 z0 z1 z2 z3 z4 z5 z6 z7 z8 z9 z10;refine aV (by kernel_rfl) (fun x hx=>?_);have HXX:=hide (HX x (rT.step hx));clear hx;refine aG 5 rfl (by kernel_rfl) (by rfl) ?_;go_simp;refine HXX.mono ?_;rintro e y ⟨rfl,A',G',c',v',hY⟩;have HY:=hide hY;clear hY HXX;refine aG 6 rfl (by kernel_rfl) (by rfl) ?_;go_simp;refine wpAny_done (by kernel_rfl) ?_;go_simp;go_wp2_with fail;go_ret;exact⟨rfl,A',G',c',v',HY⟩):P:=h
theorem Za8(h:P:=by
 open apk in exact DW):P:=h
theorem Za9(h:P:=by
 go_wp2_with fail;go_loopw [9,10] (fun v j wr=>∃k g cp:Nat,k≤s0.ids.length∧j= .int .i64 k∧v= .slice (some ⟨g,0,none⟩) (lK s0 mL k).length cp∧wr.ownsRow W3.heap.size 3 1 v (lK s0 mL k).length (GR.flat aR (lK s0 mL k))∧(lK s0 mL k=[]→cp=0)∧Below W3.heap.size W3 wr) (fun _ j _=>s0.ids.length - (intOf j).toNat)
 case atStart=>exact⟨0,_,_,Nat.zero_le _,rfl,rfl,World.ownsRow_lit _ #[] 0 (Nat.le_refl _) (by decide) rfl,fun _=>rfl,au _ _⟩
 case round=>
  obtain⟨k,g,cp,hk,rfl,rfl,hown,anK,hbel⟩:=hrel;have aap:=hide anK;clear anK;have fD:=hide hbel;obtain⟨_,s31,s32⟩:=xI (aj UU hbel);clear hbel;by_cases hlt:k < s0.ids.length
  ·obtain⟨eb,hgb,hcell⟩:=(acP.below fD) k hlt;open ajO in exact Yb
  ·have hke:k=s0.ids.length:=by omega
   subst hke;have hd:decide ((s0.ids.length:Int) < (s0.ids.length:Int))=false:=by simp
   rw [wZ] at hown aap;have ar6:(Value.slice (some ⟨g,0,none⟩) (lK s0 mL s0.ids.length).length cp)= .slice (some ⟨g,0,none⟩) (aW s0 mL).length cp:=by rw [wZ]
   rw [wZ];go_wp2_with fail;go_meet
   case rel=>exact⟨g,cp,rfl,hown,aap,fD⟩):P:=h
theorem amE(h:P:=by
 open apj in exact DW):P:=h
theorem aaT(h:P:=by
 open apL in exact alR):P:=h
theorem aaU(h:P:=by
 rw [hR];have HR:=hide hR;clear hR;cases hk:keyOk k.data.toList
 ·have HK:=hide (fun w1=>jS k false w1 hs hk);cases hn:eD n
  ·have HN:=hide (fun w1=>dM n false w1 hn);have HP:=hide (show R=(decide (no=0)&&false&&false&&jV ⟨mK,mF,mT,mI,mL,mk,mN⟩) by rw [←ah HR];simp[bX,hk,hn]);clear HR;clear hk hn;go_enter Tryz.func36,Tryz.ntmps36
   go_wp2_with (first|(go_at_call_of 64 k;refine(HK _).mono ?_;rintro e w1 ⟨rfl,rfl⟩)|(go_at_call_of 61 n;refine(HN _).mono ?_;rintro e w1 ⟨rfl,rfl⟩))
   all_goals
    go_ret
    refine⟨aD ?_,au w _⟩
    rw [ah HP]
    simp[jV, *]
  ·have HN:=hide (fun w1=>dM n true w1 hn);have HP:=hide (show R=(decide (no=0)&&false&&true&&jV ⟨mK,mF,mT,mI,mL,mk,mN⟩) by rw [←ah HR];simp[bX,hk,hn]);clear HR;clear hk hn;go_enter Tryz.func36,Tryz.ntmps36
   go_wp2_with (first|(go_at_call_of 64 k;refine(HK _).mono ?_;rintro e w1 ⟨rfl,rfl⟩)|(go_at_call_of 61 n;refine(HN _).mono ?_;rintro e w1 ⟨rfl,rfl⟩))
   all_goals
    go_ret
    refine⟨aD ?_,au w _⟩
    rw [ah HP]
    simp[jV, *]
 ·have HK:=hide (fun w1=>jS k true w1 hs hk);cases hn:eD n
  ·have HN:=hide (fun w1=>dM n false w1 hn);have HP:=hide (show R=(decide (no=0)&&true&&false&&jV ⟨mK,mF,mT,mI,mL,mk,mN⟩) by rw [←ah HR];simp[bX,hk,hn]);clear HR;clear hk hn;go_enter Tryz.func36,Tryz.ntmps36
   go_wp2_with (first|(go_at_call_of 64 k;refine(HK _).mono ?_;rintro e w1 ⟨rfl,rfl⟩)|(go_at_call_of 61 n;refine(HN _).mono ?_;rintro e w1 ⟨rfl,rfl⟩))
   all_goals
    go_ret
    refine⟨aD ?_,au w _⟩
    rw [ah HP]
    simp[jV, *]
  ·have HN:=hide (fun w1=>dM n true w1 hn);have HP:=hide (show R=(decide (no=0)&&true&&true&&jV ⟨mK,mF,mT,mI,mL,mk,mN⟩) by rw [←ah HR];simp[bX,hk,hn]);clear HR;clear hk hn;go_enter Tryz.func36,Tryz.ntmps36
   go_wp2_with (first|(go_at_call_of 64 k;refine(HK _).mono ?_;rintro e w1 ⟨rfl,rfl⟩)|(go_at_call_of 61 n;refine(HN _).mono ?_;rintro e w1 ⟨rfl,rfl⟩))
   all_goals
    go_ret
    refine⟨aD ?_,au w _⟩
    rw [ah HP]
    simp[jV, *]):P:=h
theorem amH(h:P:=by
 by_cases hmK:mK=0
 case' neg=>
  have aqE:¬(0:Int)=mK:=fun e=>hmK e.symm
  go_wp2_with fail
  go_ret
  exact⟨aD (by rw [ah HP];simp[jV,hmK]),iD⟩
 subst hmK;by_cases hmF:mF=0
 case' neg=>
  have aqC:¬(0:Int)=mF:=fun e=>hmF e.symm
  go_wp2_with fail
  go_ret
  exact⟨aD (by rw [ah HP];simp[jV,hmF]),iD⟩
 subst hmF;by_cases hmT:mT=0
 case' neg=>
  have aqH:¬(0:Int)=mT:=fun e=>hmT e.symm
  go_wp2_with fail
  go_ret
  exact⟨aD (by rw [ah HP];simp[jV,hmT]),iD⟩
 subst hmT;by_cases hmI:mI=0
 case' neg=>
  have aqD:¬(0:Int)=mI:=fun e=>hmI e.symm
  go_wp2_with fail
  go_ret
  exact⟨aD (by rw [ah HP];simp[jV,hmI]),iD⟩
 subst hmI;by_cases hmL:mL=0
 case' neg=>
  have aqF:¬(0:Int)=mL:=fun e=>hmL e.symm
  go_wp2_with fail
  go_ret
  exact⟨aD (by rw [ah HP];simp[jV,hmL]),iD⟩
 subst hmL;by_cases hmk:mk.toList=[]
 case' neg=>
  go_wp2_with fail
  go_ret
  exact⟨aD (by rw [ah HP];simp[jV,hmk]),iD⟩
 by_cases hmN:mN=0
 case' neg=>
  have aqG:¬(0:Int)=mN:=fun e=>hmN e.symm
  go_wp2_with fail
  go_ret
  exact⟨aD (by rw [ah HP];simp[jV,hmk,hmN]),iD⟩
 subst hmN;go_wp2_with fail;go_ret;exact⟨aD (by rw [ah HP];simp[jV,hmk]),iD⟩):P:=h
theorem amI(h:P:=by
 go_wp2_with fail;refine aO (fun W' hW'=>?_)
 have e4:W'.heap[w.heap.size+2]?=some (.cells #[.int .i64 n.id,.int .i64 n.par,.slice a_k n.kids.length aI,.int .i64 n.next,.slice (some ⟨gp,0,none⟩) n.pu.length bf,.slice dA n.out.length aM,.slice (some ⟨G.s,0,none⟩) n.seen.length aJ,.int .i64 n.old,.slice fq n.reqs.length aQ] 30 (0,0)):=by
  rw [hW'];exact GR.setW_blk [.int .i64 n.id,.int .i64 n.par,.slice a_k n.kids.length aI,.int .i64 n.next,.slice (some ⟨gp,0,none⟩) n.pu.length bf,.slice dA n.out.length aM,.slice (some ⟨G.s,0,none⟩) n.seen.length aJ,.int .i64 n.old,.slice fq n.reqs.length aQ] (o:=0) (xs:=[.int .i64 0,.int .i64 0,.slice none 0 0,.int .i64 0,.slice none 0 0,.slice none 0 0,.slice none 0 0,.int .i64 0,.slice none 0 0]) jA
 have eU:aC [w.heap.size+2] (W8.alloc (.cells #[] 32)) W':=by
  rw [hW'];exact aL [.int .i64 n.id,.int .i64 n.par,.slice a_k n.kids.length aI,.int .i64 n.next,.slice (some ⟨gp,0,none⟩) n.pu.length bf,.slice dA n.out.length aM,.slice (some ⟨G.s,0,none⟩) n.seen.length aJ,.int .i64 n.old,.slice fq n.reqs.length aQ] (W8.alloc (.cells #[] 32)) 0
 have RA:w.heap.size+2≠gi:=by omega
 have MV:=hide (UD.kc (k:=9) (KC.keeps eU (fun x hx=>by have:x=w.heap.size+2:=(by simpa using hx);rw [this];exact yK _ (by omega) RA)) (by omega))
 have HAT:Hid (∀W'',Out c w W' W''→RM W'' (⟨a_k,(some ⟨gp,0,none⟩),dA,(some ⟨G.s,0,none⟩),fq,aI,bf,aM,aJ,aQ⟩:bE) (bY n (n.seen.set i ⟨mF,dU s0 mL,aW s0 mL⟩))):=fun W'' ho=>by
  obtain⟨F,hk,hF⟩:=ho
  have hold:=(MV.kc (k:=9) (KC.keeps hk (fun x hx=>HCO x (hF x hx).1 (hF x hx).2)) (by omega))
  have ho:Out c w W' W'':=⟨F,hk,hF⟩
  exact hold.rm
 have AP:Hid (∀W'',Out c w W' W''→GR.At gX 7 W'' (some ⟨W8.heap.size,0,none⟩) []):=fun W'' ho j hj=>(by simp at hj)
 have jW:Hid (Below B w W'):=Uk.trans (eU.below (fun x hx=>by have:x=w.heap.size+2:=(by simpa using hx);omega) (by have h1:=aA jA;omega));have oJ:=hide (Apart.keeps (c:=c) Uq (by have h1:=aA jA;omega) eU (fun x hx=>by have:x=w.heap.size+2:=(by simpa using hx);omega));obtain⟨x0,x1,x2,x3,x4,x5,x6,x7,x8⟩:=nine e4;clear hW' e4 eU
 first
  |exact bodyPost_ret (v:= .tuple #[.agg #[.int .i64 n.id,.int .i64 n.par,.slice a_k n.kids.length aI,.int .i64 n.next,.slice (some ⟨gp,0,none⟩) n.pu.length bf,.slice dA n.out.length aM,.slice (some ⟨G.s,0,none⟩) n.seen.length aJ,.int .i64 n.old,.slice fq n.reqs.length aQ],.slice (some ⟨W8.heap.size,0,none⟩) 0 0,.int .i64 1]) (by simp[results,Tryz.results119,go_sem,x0,x1,x2,x3,x4,x5,x6,x7,x8]) rfl ⟨(⟨a_k,(some ⟨gp,0,none⟩),dA,(some ⟨G.s,0,none⟩),fq,aI,bf,aM,aJ,aQ⟩:bE),(some ⟨W8.heap.size,0,none⟩),⟨0,by simp[gu,fZ,bY]⟩,HAT,AP,jW,oJ⟩
  |exact bodyPost_ret (v:= .tuple #[.agg #[.int .i64 n.id,.int .i64 n.par,.slice a_k n.kids.length aI,.int .i64 n.next,.slice (some ⟨gp,0,none⟩) n.pu.length bf,.slice dA n.out.length aM,.slice (some ⟨G.s,0,none⟩) n.seen.length aJ,.int .i64 n.old,.slice fq n.reqs.length aQ],.slice (some ⟨W8.heap.size,0,none⟩) 0 0,.int .i64 1]) (by simp[results,Tryz.results119,go_sem,x0,x1,x2,x3,x4,x5,x6,x7,x8]) rfl ⟨(⟨a_k,(some ⟨gp,0,none⟩),dA,(some ⟨G.s,0,none⟩),fq,aI,bf,aM,aJ,aQ⟩:bE),(some ⟨W8.heap.size,0,none⟩),0,by simp[gu,fZ,bY],HAT,AP,jW,oJ⟩):P:=h
theorem amJ(h:P:=by
 refine aO (fun W' hW'=>?_)
 have e4:W'.heap[w.heap.size+2]?=some (.cells #[.int .i64 n.id,.int .i64 n.par,.slice a_k n.kids.length aI,.int .i64 n.next,.slice iy n.pu.length bf,.slice dA n.out.length aM,.slice (some ⟨G.s,0,none⟩) n.seen.length aJ,.int .i64 n.old,.slice fq n.reqs.length aQ] 30 (0,0)):=by
  rw [hW'];exact GR.setW_blk [.int .i64 n.id,.int .i64 n.par,.slice a_k n.kids.length aI,.int .i64 n.next,.slice iy n.pu.length bf,.slice dA n.out.length aM,.slice (some ⟨G.s,0,none⟩) n.seen.length aJ,.int .i64 n.old,.slice fq n.reqs.length aQ] (o:=0) (xs:=[.int .i64 0,.int .i64 0,.slice none 0 0,.int .i64 0,.slice none 0 0,.slice none 0 0,.slice none 0 0,.int .i64 0,.slice none 0 0]) kC
 have eU:aC [w.heap.size+2] W7 W':=by
  rw [hW'];exact aL [.int .i64 n.id,.int .i64 n.par,.slice a_k n.kids.length aI,.int .i64 n.next,.slice iy n.pu.length bf,.slice dA n.out.length aM,.slice (some ⟨G.s,0,none⟩) n.seen.length aJ,.int .i64 n.old,.slice fq n.reqs.length aQ] W7 0
 have RA:w.heap.size+2≠gi:=by omega
 have MV:=hide (UA.kc (k:=9) (KC.keeps eU (fun x hx=>by have:x=w.heap.size+2:=(by simpa using hx);rw [this];exact yK _ (by omega) RA)) (by omega))
 have HAT:Hid (∀W'',Out c w W' W''→RM W'' (⟨a_k,iy,dA,(some ⟨G.s,0,none⟩),fq,aI,bf,aM,aJ,aQ⟩:bE) (bY n (n.seen.set i ⟨mF,dU s0 mL,aW s0 mL⟩))):=fun W'' ho=>by
  obtain⟨F,hk,hF⟩:=ho
  have hold:=(MV.kc (k:=9) (KC.keeps hk (fun x hx=>HCO x (hF x hx).1 (hF x hx).2)) (by omega))
  have ho:Out c w W' W'':=⟨F,hk,hF⟩
  exact hold.rm
 have AP:Hid (∀W'',Out c w W' W''→GR.At gX 7 W'' (some ⟨ab,0,none⟩) [⟨2,n.id,mF,mI,0,ByteArray.empty,0⟩]):=fun W'' ho j hj=>JM (eU.obj Px (fun hm=>by simp at hm;omega)) ho (by omega) j hj
 have jW:Hid (Below B w W'):=aak.trans (eU.below (fun x hx=>by have:x=w.heap.size+2:=(by simpa using hx);omega) (by have h1:=aA kC;omega));have oJ:=hide (Apart.keeps (c:=c) aar (by have h1:=aA kC;omega) eU (fun x hx=>by have:x=w.heap.size+2:=(by simpa using hx);omega));obtain⟨x0,x1,x2,x3,x4,x5,x6,x7,x8⟩:=nine e4;clear hW' e4 eU
 first
  |exact bodyPost_ret (v:= .tuple #[.agg #[.int .i64 n.id,.int .i64 n.par,.slice a_k n.kids.length aI,.int .i64 n.next,.slice iy n.pu.length bf,.slice dA n.out.length aM,.slice (some ⟨G.s,0,none⟩) n.seen.length aJ,.int .i64 n.old,.slice fq n.reqs.length aQ],.slice (some ⟨ab,0,none⟩) 1 1,.int .i64 0]) (by simp[results,Tryz.results119,go_sem,x0,x1,x2,x3,x4,x5,x6,x7,x8]) rfl ⟨(⟨a_k,iy,dA,(some ⟨G.s,0,none⟩),fq,aI,bf,aM,aJ,aQ⟩:bE),(some ⟨ab,0,none⟩),⟨1,by simp[gu,fZ,bY]⟩,HAT,AP,jW,oJ⟩
  |exact bodyPost_ret (v:= .tuple #[.agg #[.int .i64 n.id,.int .i64 n.par,.slice a_k n.kids.length aI,.int .i64 n.next,.slice iy n.pu.length bf,.slice dA n.out.length aM,.slice (some ⟨G.s,0,none⟩) n.seen.length aJ,.int .i64 n.old,.slice fq n.reqs.length aQ],.slice (some ⟨ab,0,none⟩) 1 1,.int .i64 0]) (by simp[results,Tryz.results119,go_sem,x0,x1,x2,x3,x4,x5,x6,x7,x8]) rfl ⟨(⟨a_k,iy,dA,(some ⟨G.s,0,none⟩),fq,aI,bf,aM,aJ,aQ⟩:bE),(some ⟨ab,0,none⟩),1,by simp[gu,fZ,bY],HAT,AP,jW,oJ⟩):P:=h
theorem aaV(h:P:=by
 go_wp2_with fail;refine wp_region_quiet_lit (by kernel_rfl) (by kernel_rfl) ?_;repeat (first|go_big_quiet_step ((first|(go_at_call 64;exact lU _ _ hks hkb' _ _)|(go_at_call_of 62 (IntKind.i64.wrap (pf+ps));exact fC _ _ g4 _ _)|(go_at_call_of 62 (pf+ps);exact fC _ _ g5 _ _)|(go_at_call_of 62 pm;exact fC _ _ g1 _ _)|(go_at_call_of 62 pf;exact fC _ _ g2 _ _)|(go_at_call_of 62 ps;exact fC _ _ g3 _ _)))|quiet_step ((first|(go_at_call 64;exact lU _ _ hks hkb' _ _)|(go_at_call_of 62 (IntKind.i64.wrap (pf+ps));exact fC _ _ g4 _ _)|(go_at_call_of 62 (pf+ps);exact fC _ _ g5 _ _)|(go_at_call_of 62 pm;exact fC _ _ g1 _ _)|(go_at_call_of 62 pf;exact fC _ _ g2 _ _)|(go_at_call_of 62 ps;exact fC _ _ g3 _ _))))
 refine wpQuiet_nil ?_;intro _ hw';obtain⟨nq,hw''⟩:=hw';subst hw'';go_wp2_with fail;go_ret;exact⟨aD HBAD.symm,(fD.alloc fD.size _).trans ⟨rfl,rfl,rfl,Nat.le_refl _,fun _ _=>rfl⟩⟩):P:=h
theorem aaW(h:P:=by
 open akP in exact Yu):P:=h
theorem Gj(h:P:=by
 clear HR;clear hk hn ho;go_enter Tryz.func36,Tryz.ntmps36
 go_wp2_with (first|(go_at_call_of 64 k;refine(HK _).mono ?_;rintro e w1 ⟨rfl,rfl⟩)|(go_at_call_of 61 n;refine(HN _).mono ?_;rintro e w1 ⟨rfl,rfl⟩)|(go_at_call_of 61 no;refine(HO _).mono ?_;rintro e w1 ⟨rfl,rfl⟩))
 all_goals
  go_ret
  refine⟨aD ?_,au w _⟩
  rw [ah HP]
  simp[jV, *]):P:=h
theorem amL(h:P:=by
 rw [hR];have hd:decide (o.no≤n.old)=false:=decide_eq_false hc;open aiA in exact Qr):P:=h
theorem JL(h:P:=by
 open aix in exact XA):P:=h
theorem amM(h:P:=by
 open aie in exact Xu):P:=h
theorem amN(h:P:=by
 go_wp2_with fail;go_quiet (fail);have Rz:(wr.drewN nq).ownsRow W2.heap.size 95 4 (.slice a (FL k).length cp) (FL k).length (GR.flat aS (FL k)):=ah HO;have hnk:=ah HNK;obtain⟨hi,hz0,hz1,hz2⟩:=ah HI;have hwb:W2.heap.size≤wr.heap.size:=iD.size;go_wp2_with (at_builtin;refine wpList_append_own _ rfl _ _ 26 rfl W2.heap.size 95 i0 (.agg #[.int .i64 0,.int .i64 0,.string ByteArray.empty,.int .i64 0]) 4 40 Tryz.underlying26 hi hz0 hz1 hz2 rfl (by decide) _ _ _ rfl (Rz.alloc _) ⟨wr.heap.size,0,none⟩ 1 1 (aS ⟨si,st,sk,sn⟩) rfl rfl ?c1 ?c2 ?c3 ?c4 ?c5 ?_)
 case c1=>exact World.news_of_block (heap_alloc_new (wr.drewN nq) _)
 case c2=>exact oU _
 case c3=>unfold maxLen;omega
 case c4=>omega
 case c5=>exact Nat.le_trans hwb (au (wr.drewN nq) _).size
 intro v' w5 hown' hgrow _;obtain⟨an,cn,hv,_⟩:=GR.own_at (enc:=aS) (sz:=4) (l:=FL k++[⟨si,st,sk,sn⟩]) bH (by rw [List.length_append,fV];exact hown');rw [List.length_append] at hv;have hv':v'= .slice an ((FL k).length+1) cn:=hv;clear hv;subst hv'
 have CB:Hid (w5.ownsRow W2.heap.size 95 4 (.slice an FK.length cn) FK.length (GR.flat aS FK)):=by
  unfold Hid;rw [ah HX,List.length_append,fV];exact hown'
 have jJ:Hid (Below W2.heap.size W2 w5):=(iD.trans (Below.trans (b:=wr.drewN nq) ⟨rfl,rfl,rfl,Nat.le_refl _,fun _ _=>rfl⟩ ((au (wr.drewN nq) (.cells #[.int .i64 si,.int .i64 st,.string sk,.int .i64 sn] 95)).mono hwb))).trans ⟨hgrow.os,hgrow.tape,hgrow.output,hgrow.size,fun x hx=>hgrow.block x (Nat.lt_of_lt_of_le hx (Nat.le_trans hwb (au (wr.drewN nq) _).size)) (fun e=>by have:=pU Rz e.symm;omega)⟩;clear hown' hgrow Rz hi hz0 hz1 hz2 c0 c1 c2 c3 c4 c5 c6 c7 c8 m0 m1 m2 m3 m4 m5 m6 s0 s1 s2 s3;go_wp2_with fail;go_roundw
 case rel=>exact⟨k+1,an,cn,by omega,by rw [ah HX0,ah HX,List.length_append];rfl,by go_num,by rw [ah HX0];exact CB,jJ⟩
 case measure=>simp[intOf];omega):P:=h
theorem amO(h:P:=by
 go_wp2_with fail;go_loopw [10] (fun i wr=>∃j q:Nat,j≤n.reqs.length∧i= .int .i64 j∧(∀x (hx:x < n.reqs.length),x < j→n.reqs[x].no < no)∧wr=W4.drewN q) (fun i _=>n.reqs.length - (intOf i).toNat)
 case atStart=>exact⟨0,0,Nat.zero_le _,rfl,fun x hx h=>(by omega),rfl⟩
 case round=>
  obtain⟨j,q,hj,rfl,hlo,rfl⟩:=hrel;have PW:=hide hlo;clear hlo;by_cases hlt:j < n.reqs.length
  ·obtain⟨g',off',e0,hg',y0,_,_,_⟩:=iA.four HA4 j hlt;cases e0
   rw [Nat.zero_add] at y0
   have HUP:=hide (fun(h:no≤n.reqs[j].no)=>EJ (l:=n.reqs) (no:=no) AR (i:=j) hj PW (fun x hx hjx=>by
    rcases Nat.lt_or_eq_of_le hjx with h1|h1
    ·have:=List.pairwise_iff_getElem.1 AR j x hlt hx h1;omega
    ·subst h1;exact h))
   have PZ:=hide (fun(h:n.reqs[j].no < no)=>show∀x (hx:x < n.reqs.length),x < j+1→n.reqs[x].no < no from fun x hx h2=>by
    by_cases e:x=j
    ·subst e;exact h
    ·exact PW x hx (by omega))
   generalize n.reqs[j].no=rn at *;by_cases hcmp:rn < no
   ·go_wp2_with fail;go_quiet (fail);go_wp2_with fail;go_roundw
    case rel=>exact⟨j+1,_,by omega,by go_num,PZ hcmp,rfl⟩
    case measure=>simp[intOf];omega
   ·have Rs:decide (rn < no)=false:=decide_eq_false hcmp;have HJ:=hide (HUP (by omega));go_wp2_with fail;go_quiet (fail);go_wp2_with fail;go_meet
    case rel=>exact⟨by rw [ah HJ],⟨rfl,rfl,rfl,Nat.le_refl _,fun _ _=>rfl⟩⟩
  ·have hje:j=n.reqs.length:=by omega
   subst hje;have HJ:=hide (EJ (l:=n.reqs) (no:=no) AR (i:=n.reqs.length) (Nat.le_refl _) PW (fun x hx hjx=>by omega));have Rs:decide ((n.reqs.length:Int) < (n.reqs.length:Int))=false:=by simp
   go_wp2_with fail;go_quiet (fail);go_wp2_with fail;go_meet
   case rel=>exact⟨by rw [ah HJ],⟨rfl,rfl,rfl,Nat.le_refl _,fun _ _=>rfl⟩⟩):P:=h
theorem aaX(h:P:=by
 go_wp2_with fail;go_loopw [7] (fun j wr=>∃x q:Nat,x≤i∧j= .int .i64 x∧wr=W0.drewN q) (fun j _=>i - (intOf j).toNat)
 case atStart=>exact⟨0,0,Nat.zero_le _,rfl,rfl⟩
 case round=>
  obtain⟨x,q,hx,rfl,rfl⟩:=hrel;have hxl:x < n.seen.length:=by omega
  obtain⟨b',c',e',hg',⟨u0,_,_⟩,_,_⟩:=eO.three Uz.s x hxl;by_cases hxi:x=i
  ·subst hxi;rw [hs0,hfi] at u0;have hnn:(mF != mF)=false:=by simp
   go_wp2_with fail;go_quiet (fail);go_wp2_with fail;go_meet
   case rel=>exact⟨rfl,⟨rfl,rfl,rfl,Nat.le_refl _,fun _ _=>rfl⟩⟩
  ·have hne:=hbef x hxl (by omega);generalize n.seen[x].f=fx at *;have hnn:(fx != mF)=true:=by simpa using hne
   go_wp2_with fail;go_quiet (fail);go_wp2_with fail;go_roundw
   case rel=>exact⟨x+1,_,by omega,by go_num,rfl⟩
   case measure=>simp[intOf];omega):P:=h
theorem amP(h:P:=by
 by_cases hk:k.toList=[]
 case' neg=>
  go_wp2_with fail
  go_ret
  exact⟨aD (by rw [ah HP];simp[jV,hk]),iD⟩
 by_cases hn:n=0
 case' neg=>
  have hn':¬(0:Int)=n:=fun e=>hn e.symm
  go_wp2_with fail
  go_ret
  exact⟨aD (by rw [ah HP];simp[jV,hk,hn]),iD⟩
 subst hn;by_cases hmK:mK=0
 case' neg=>
  have aqE:¬(0:Int)=mK:=fun e=>hmK e.symm
  go_wp2_with fail
  go_ret
  exact⟨aD (by rw [ah HP];simp[jV,hk,hmK]),iD⟩
 subst hmK;by_cases hmF:mF=0
 case' neg=>
  have aqC:¬(0:Int)=mF:=fun e=>hmF e.symm
  go_wp2_with fail
  go_ret
  exact⟨aD (by rw [ah HP];simp[jV,hk,hmF]),iD⟩
 subst hmF;by_cases hmT:mT=0
 case' neg=>
  have aqH:¬(0:Int)=mT:=fun e=>hmT e.symm
  go_wp2_with fail
  go_ret
  exact⟨aD (by rw [ah HP];simp[jV,hk,hmT]),iD⟩
 subst hmT;by_cases hmI:mI=0
 case' neg=>
  have aqD:¬(0:Int)=mI:=fun e=>hmI e.symm
  go_wp2_with fail
  go_ret
  exact⟨aD (by rw [ah HP];simp[jV,hk,hmI]),iD⟩
 subst hmI;by_cases hmL:mL=0
 case' neg=>
  have aqF:¬(0:Int)=mL:=fun e=>hmL e.symm
  go_wp2_with fail
  go_ret
  exact⟨aD (by rw [ah HP];simp[jV,hk,hmL]),iD⟩
 subst hmL;by_cases hmk:mk.toList=[]
 case' neg=>
  go_wp2_with fail
  go_ret
  exact⟨aD (by rw [ah HP];simp[jV,hk,hmk]),iD⟩
 by_cases hmN:mN=0
 case' neg=>
  have aqG:¬(0:Int)=mN:=fun e=>hmN e.symm
  go_wp2_with fail
  go_ret
  exact⟨aD (by rw [ah HP];simp[jV,hk,hmk,hmN]),iD⟩
 subst hmN;go_wp2_with fail;go_ret;exact⟨aD (by rw [ah HP];simp[jV,hk,hmk]),iD⟩):P:=h
theorem tC(h:P:=by
 exact⟨by rw [ah HV],below_regrown _ dq osq⟩):P:=h
theorem aa9(h:P:=by
 intro k ok hk hki hun hno;refine hfree k ok hk hki ?_ hno;by_cases hjk:j=k
 ·subst hjk;exact hjun
 ·rw [getD_set_ne true hjk] at hun;exact hun):P:=h
theorem amQ(h:P:=by
 open ad9 in exact aaJ):P:=h
theorem amR(h:P:=by
 rw [ah HD];clear HD hT;go_enter Tryz.func106,Tryz.ntmps106
 go_upto_region 1 with fail;refine fK (by kernel_rfl) ?_;show iX _ _ _ _ 18 (Array.replicate 18 false) _ _
 refine tk [0,1,2,3,4,5,6,7,8,9,10,11,12,13,14] ?_;iterate 15 (refine Pq (fun K hK=>?_);go_simp;refine hK _ ?_;clear hK K)
 refine jI ?_;refine uD 15 rfl (by kernel_rfl) (by kernel_rfl) (by kernel_rfl) (fun _ _ _ _ h=>h) (fun K hK=>?_);go_simp
 first
  |(refine hK _ ?_;clear hK K)
  |(apply Exists.intro
    refine⟨fun _=>?_,hK _ ?_⟩
    (exact MR _ (Ph _))
    clear hK K)
 refine tk [16,17] ?_;iterate 2 (refine Pq (fun K hK=>?_);go_simp;refine hK _ ?_;clear hK K)
 refine jI ?_;refine iC (by kernel_rfl) (fun z hz=>?_);have HZ:=hide ((au w (.cells #[.int .i64 mK,.int .i64 mF,.int .i64 mT,.int .i64 mI,.int .i64 mL,.string mk,.int .i64 mN] 32)).trans (hz.mono (by simp)));clear hz y0 y1 y2 y3 y4 y5 y6 y7 y8 z1 z2 Ph;go_simp;go_wp2_with fail;go_ret;exact⟨rfl,HZ⟩):P:=h
theorem aaY(h:P:=by
 by_cases hlow:s0.l < mL
 ·have hd:decide (s0.l < mL)=true:=decide_eq_true hlow;have HLW:=hide (show dU s0 mL=mL from if_pos hlow);go_wp2_with fail;go_meet
  case rel=>exact⟨rfl,by rw [ah HLW];exact bg M9 1 _,aC.set _⟩
 ·have hd:decide (s0.l < mL)=false:=decide_eq_false hlow;have HLW:=hide (show dU s0 mL=s0.l from if_neg hlow);go_wp2_with fail;go_meet
  case rel=>exact⟨rfl,by rw [ah HLW];exact M9,aC.refl _ _⟩):P:=h
theorem amS(h:P:=by
 have hold:=(jY.kc (k:=9) ((KC.of_below rR).trans (KC.out H9 ho)) (by omega));have hp:=(ah JD).out (w:=w) (by omega) ho;have hr:=(ah HLZ).out (w:=w) (by omega) ho
 have Vz:∀g',av.map (fun y=>y.block)=some g'→6 < newC w.heap.size 9 c g':=fun g' hg'=>by
  have h1:=hp.lo (lq hp hg')
  rw [aT (by omega)]
  omega
 exact NQ.put hold hold _ _ rfl rfl rfl rfl (hp.lies aZ).1 (fun g' hg' _=> .inr (Vz g' hg')) hold.o (fun y hy=> .inl (hold.co y hy)) hr (fun y hy=> .inr (by have h1:=hr.lo hy;rw [aT (by omega)];omega))
  (fun g' hg' _ h6=>⟨fun e=>by have:=hold.co g' e;omega,hp.ne hr (by decide) (lq hp hg')⟩) (fun y hy h6=>by have:=hold.co y hy;omega)):P:=h
theorem amT(h:P:=by
 open akb in exact Gg):P:=h
theorem Q0(h:P:=by
 go_wp2_with fail;refine H.mono ?_;rintro e w1 ⟨a1,c1,g,hg,rfl,hblk,hb⟩;have HK:=hide hblk;have HB:=hide hb;clear hblk hb;go_wp2_with fail;go_ret2
 exact⟨_,_,g,hg,rfl,HK,HB⟩):P:=h
theorem amU(h:P:=by
 open apJ in exact Nh):P:=h
theorem amV(h:P:=by
 have hil:i < l.length:=by simpa using hi'
 by_cases e:i=k
 ·subst e;refine⟨b,cc,?_,?_⟩
  ·rw [List.getElem_set_self,List.getElem?_set_self Jw]
  ·rw [List.getElem_set_self];unfold ow;rw [if_pos rfl];exact hi.keeps hkp (fun x hx=>by simpa using hgi x hx)
 ·obtain⟨b',c',ht,hi2⟩:=hr i hil;refine⟨b',c',?_,?_⟩
  ·rw [List.getElem_set_ne (by omega),List.getElem?_set_ne (by omega)];exact ht
  ·rw [List.getElem_set_ne (by omega)];unfold ow;rw [if_neg e];exact hi2.keeps hkp (fun x hx=>by simpa using hg4 x (iL hil x hx))):P:=h
theorem amW(h:P:=by
 have hold:=(jY.kc (k:=9) ((KC.of_below rR).trans (KC.out H9 ho)) (by omega));have hr:=(ah HLZ).out (w:=w) (by omega) ho
 exact NQ.put hold hold _ _ rfl rfl rfl rfl hold.p.at (fun g' hg' hp'=> .inl (hold.cpB hold g' hg' hp')) hold.o (fun y hy=> .inl (hold.co y hy)) hr (fun y hy=> .inr (by have h1:=hr.lo hy;rw [aT (by omega)];omega))
  (fun g' hg' hp' h6=>by have:=hold.cpB hold g' hg' hp';omega) (fun y hy h6=>by have:=hold.co y hy;omega)):P:=h
theorem aaZ(h:P:=by
 obtain⟨g,off,e,hg,hc⟩:=h i hi;refine⟨g,off,e,hg,?_,?_,?_,?_⟩
 ·simpa using hc 0 (by omega)
 ·simpa [Nat.add_assoc] using hc 1 (by omega)
 ·simpa [Nat.add_assoc] using hc 2 (by omega)
 ·simpa [Nat.add_assoc] using hc 3 (by omega)):P:=h
theorem apU(h:P:=by
 rw [hW'];exact GR.setW_blk [.int .i64 n.id,.int .i64 n.par,.slice a_k n.kids.length aI,.int .i64 n.next,.slice iy n.pu.length bf,.slice dA n.out.length aM,.slice dJ n.seen.length aJ,.int .i64 n.old,.slice (some ⟨g,off,none⟩) n.reqs.length aQ] (o:=0) (xs:=[.int .i64 0,.int .i64 0,.slice none 0 0,.int .i64 0,.slice none 0 0,.slice none 0 0,.slice none 0 0,.int .i64 0,.slice none 0 0]) oH):P:=h
theorem apV(h:P:=by
 rw [Pp];exact hW5.W.keeps (aL [.int .i64 mF,.int .i64 (dU s0 mL),.slice (some ⟨gi,0,none⟩) (aW s0 mL).length Gu] _ (i*3)) (fun x hx hm=>by have h1:=(gD hx).1;simp at hm;omega)):P:=h
theorem apW(h:P:=by
 rw [hW'];exact GR.setW_blk [.int .i64 n.id,.int .i64 n.par,.slice A.k n.kids.length A.ck,.int .i64 n.next,.slice A.p n.pu.length A.cp,.slice A.o n.out.length A.co,.slice A.s n.seen.length A.cs,.int .i64 n.old,.slice A.r n.reqs.length A.cr] (o:=0) (xs:=[.int .i64 0,.int .i64 0,.slice none 0 0,.int .i64 0,.slice none 0 0,.slice none 0 0,.slice none 0 0,.int .i64 0,.slice none 0 0]) oH):P:=h
theorem aa0(h:P:=by
 have HK:=hide (fun w1=>gB k false w1 hk);cases hn:eD n
 ·have HN:=hide (fun w1=>aP n false w1 hn);have HP:=hide (show R=(decide (no=0)&&false&&false&&jV ⟨mK,mF,mT,mI,mL,mk,mN⟩) by rw [←ah HR];simp[bX,hk,hn]);exact aaW
 ·have HN:=hide (fun w1=>aP n true w1 hn);have HP:=hide (show R=(decide (no=0)&&false&&true&&jV ⟨mK,mF,mT,mI,mL,mk,mN⟩) by rw [←ah HR];simp[bX,hk,hn]);exact aaW):P:=h
theorem aa1(h:P:=by
 refine wpQuiet_nil ?_;intro _ hw';obtain⟨⟨dq,osq⟩,hw''⟩:=hw';subst hw'';go_wp2_with fail;go_meet
 case rel=>exact tC):P:=h
theorem aa3(h:P:=by
 open aiS in exact XF):P:=h
theorem amY(h:P:=by
 constructor
 ·intro hf;have e:l=l.take i++l[i]::l.drop (i+1):=by rw [←List.drop_eq_getElem_cons hi,List.take_append_drop]
  have h2:(l.take i++l[i]::l.drop (i+1)).find? f=some l[i]:=by
   rw [List.find?_append,h,List.find?_cons,hf];rfl
  rw [←e] at h2;exact h2
 ·intro hf;rw [List.take_succ_eq_append_getElem hi,List.find?_append,h,List.find?_cons,hf];rfl):P:=h
theorem aa4(h:P:=by
 have HN:=hide (fun w1=>aP n false w1 hn);have HP:=hide (show R=(decide (no=0)&&true&&false&&jV ⟨mK,mF,mT,mI,mL,mk,mN⟩) by rw [←ah HR];simp[bX,hk,hn]);exact aaW):P:=h
theorem apZ(h:P:=by
 rw [Pp];exact((aC.set _).mono (by simp)).trans ((aL [.int .i64 mF,.int .i64 (dU s0 mL),.slice (some ⟨gi,0,none⟩) (aW s0 mL).length Gu] _ (i*3)).mono (by simp))):P:=h
theorem Nl(h:P:=by
 have h:=ah kV;rw [List.take_length] at h;exact ku.trans h):P:=h
theorem amZ(h:P:=by
 have h1:=(bq hok).1;have h2:=(bq hok).2.2.1;have h3:=qQ h1;rw [pW h1,Bool.and_eq_true,decide_eq_true_eq] at h2;have h4:=congrArg List.length h2.1;rw [List.length_map,kQ] at h4;unfold bQ at h1;simp only[Bool.and_eq_true,decide_eq_true_eq] at h1;split at h3<;>omega):P:=h
theorem Vj(h:P:=by
 obtain⟨T,hT,hl,_⟩:=Pj.no.s;have:=(hT i (by rw [hl,ah HSL];exact hi)).2.2 2 (by omega);exact this.2):P:=h
theorem am0(h:P:=by
 obtain⟨e,hg,hc⟩:=h i hi;exact⟨e,hg,⟨by simpa using(hc 0 (by omega)).1,by simpa using(hc 1 (by omega)).1,by simpa using(hc 2 (by omega)).1,by simpa using(hc 3 (by omega)).1⟩,by simpa using(hc 0 (by omega)).2,(hc 1 (by omega)).2,(hc 2 (by omega)).2,(hc 3 (by omega)).2⟩):P:=h
theorem ap0(h:P:=by
 rcases Nat.lt_or_ge G.s B with h1|h1
 ·have h2:=jY.lo G.s h1;rw [dH (by omega),hc4] at h2;omega
 ·exact h1):P:=h
theorem ap1(h:P:=by
 rcases uZ.2 with⟨h1,_⟩|⟨g1,arw,arx,hv1,_,_,arV,_⟩
 ·simp at h1
 ·simp only[Value.slice.injEq] at hv1;omega):P:=h
theorem ap2(h:P:=by
 rw [hW'];exact aL [.int .i64 n.id,.int .i64 n.par,.slice A.k n.kids.length A.ck,.int .i64 n.next,.slice A.p n.pu.length A.cp,.slice A.o n.out.length A.co,.slice A.s n.seen.length A.cs,.int .i64 n.old,.slice A.r n.reqs.length A.cr] (W2.alloc (.cells #[] 32)) 0):P:=h
theorem ap3(h:P:=by
 rw [hW'];exact aL [.int .i64 n.id,.int .i64 n.par,.slice a_k n.kids.length aI,.int .i64 n.next,.slice iy n.pu.length bf,.slice dA n.out.length aM,.slice dJ n.seen.length aJ,.int .i64 n.old,.slice (some ⟨g,off,none⟩) n.reqs.length aQ] W1 0):P:=h
theorem am1(h:P:=by
 go_wp2_with (go_at_call 63;first|(refine(nW _ _ _ _ ?_ ?_).mono ?_;omega;omega;rintro e w' ⟨rfl,rfl⟩)|(refine(qO _ _ _ _ ?_).mono ?_;omega;rintro e w' ⟨rfl,rfl⟩))
 go_ret;exact⟨aD (by rw [ah HF];simp;omega),rfl⟩):P:=h
theorem am2(h:P:=by
 open af0 in exact DZ):P:=h
theorem am3(h:P:=by
 clear HR;clear ho;go_enter Tryz.func36,Tryz.ntmps36
 go_wp2_with (first|(go_at_call_of 61 no;refine(HO _).mono ?_;rintro e w1 ⟨rfl,rfl⟩))
 all_goals
  go_ret
  refine⟨aD ?_,au w _⟩
  rw [ah HP]
  simp[jV, *]):P:=h
theorem Vk(h:P:=by
 obtain⟨_,_,e0,_⟩:=eO.three CS.wk.no.s i (by rw [ah HSL];exact hi);exact e0):P:=h
theorem am4(h:P:=by
 rw [hW'];exact aL [.int .i64 n.id,.int .i64 n.par,.slice A.k n.kids.length A.ck,.int .i64 n.next,.slice A.p n.pu.length A.cp,.slice A.o n.out.length A.co,.slice A.s n.seen.length A.cs,.int .i64 n.old,.slice A.r n.reqs.length A.cr] W0 0):P:=h
theorem ap4(h:P:=by
 by_cases hcz:aQ=pos
 ·refine⟨_,rfl,?_⟩;rw [show n.reqs.drop pos=[] by apply List.drop_eq_nil_of_le;omega];exact GR.at_nil _ _
 ·refine⟨_,rfl,?_⟩;rw [if_neg hcz];exact GR.At.drop HA5 pos):P:=h
theorem am5(h:P:=by
 have hw:Region.wanted o (yielded ops a.tmps)=true:=by simp[Region.wanted,hgd]
 rw [if_pos hw];exact wp_append_own w s x t ho base e i z size bytes ht hi hz hsize hby hzs hsz v n xs hs hown ad m c news hx hl hnews h1 h63 hbytes hbase h):P:=h
theorem aa5(h:P:=by
 cases fuel with
 |zero=>exact⟨h.1,fun y hy=>h.2 y (Ge.trans hx hy)⟩
 |succ fuel=>exact fun y hy=>h y (Ge.trans hx hy)):P:=h
theorem am6(h:P:=by
 intro vs;induction vs with
 |nil=>intro w o _;rfl
 |cons v vs ih=>
  intro w o h
  rw [List.length_cons] at h
  exact(ih (w.setCell ⟨g,o,none⟩ v) (o+1) (by omega)).trans (World.cell?_setCell_other _ _ _ _ (by simp<;>omega))):P:=h
theorem am7(h:P:=by
 unfold gV at h;rcases List.mem_append.1 h with h|h
 ·exact .inr ((List.takeWhile_sublist _).mem h)
 ·rcases List.mem_cons.1 h with h|h
  ·exact .inl h
  ·exact .inr ((List.dropWhile_sublist _).mem (Av l p.k q h))):P:=h
theorem am8(h:P:=by
 have hm:l[i]∈nV l key:=by
  rw [head_take];exact List.mem_take_iff_getElem.2 ⟨i,by omega,rfl⟩
 have:=uY hm;rw [e] at this;exact absurd this (List.lt_irrefl _)):P:=h
theorem am9(h:P:=by
 have HP:Hid (TT=false):=ah HBAD (by rw [ah wG,hbv];rfl);subst hbv;clear HBAD fF dY ku wG;go_wp2_with fail;go_ret;exact⟨aD HP.symm,DJ⟩):P:=h
theorem ana(h:P:=by
 go_wp2_with fail;refine HKP.mono ?_;rintro e wz ⟨rfl,A5,G5,c5,hfin⟩;have yh:=hide hfin;clear hfin;go_wp2_with fail;go_ret;rw [ah HAD];exact⟨rfl,A5,G5,c5,yh⟩):P:=h
theorem anb(h:P:=by
 go_wp2_with fail;go_quiet (fail);go_wp2_with fail;go_meet
 case rel=>exact⟨by rw [←ah CP,ah HJ],⟨rfl,rfl,rfl,Nat.le_refl _,fun _ _=>rfl⟩⟩):P:=h
theorem ane(h:P:=by
 intro x hx;rw [hr];refine⟨fun h=>(by cases h),fun j hj=>?_⟩;obtain rfl:j=i:=by simpa using hj
 refine⟨fun e=>absurd e hiE,fun _=>?_⟩;unfold wpOp;simp only[hi];rw [if_pos hw];exact .inl (h x hx)):P:=h
theorem Vl(h:P:=by
 go_wp2_with fail
 all_goals
  go_ret
  exact⟨by simp[*],au w _⟩):P:=h
theorem anf(h:P:=by
 subst hbv;clear HBAD fF dY ku wG;go_wp2_with fail;go_roundw
 case rel=>exact⟨k+1,by omega,by go_num,HG,aam,DJ⟩
 case measure=>simp[intOf];omega):P:=h
theorem Nn(h:P:=by
 go_ret;exact⟨aD HP.symm,au w _⟩):P:=h
theorem ang(h:P:=by
 have h2I:¬(40:Int)≤(n.out.length:Int):=by omega
 have q2:decide ((40:Int)≤(n.out.length:Int))=false:=by simpa using h2I
 have q3:decide ((1000000000:Int)≤n.next)=true:=by simpa using h3
 exact Za0):P:=h
theorem aa6(h:P:=by
 rcases Nat.lt_or_ge g w.heap.size with h'|h'
 ·exact h'
 ·rw [Array.getElem?_eq_none h'] at h;cases h):P:=h
theorem anh(h:P:=by
 exact⟨e,Nat.lt_of_lt_of_le hg hk.size,fun j hj=>⟨(World.cell?_of_block (w:=w) (hk.block g hg hne)).trans (hc j hj).1,(World.frozen?_of_block (w:=w) (hk.block g hg hne)).trans (hc j hj).2⟩⟩):P:=h
theorem Q5(h:P:=by
 repeat (refine Below.setNew ?_ (by omega))
 exact HB1):P:=h
theorem ap5(h:P:=by
 rw [FD];exact((show qD aK 4 (w.heap.size+3) wc (some ⟨gv,1*4,none⟩) IT from⟨HTA,fun g off e=>by cases e;exact aqY⟩).keeps (aC.set _) (fun x hx=>by simp at hx;omega)).1):P:=h
theorem ani(h:P:=by
 clear dY;refine wp_region_quiet_below (by kernel_rfl) (by kernel_rfl) ?_;repeat (first|go_big_quiet_step ((first|(go_at_call_of 63 si;exact a1 _ _)|(go_at_call 64;exact a2 _ _)|(go_at_call 61;exact a3 _ _)|(go_at_call_of 63 st;exact a4 _ _)))|quiet_step ((first|(go_at_call_of 63 si;exact a1 _ _)|(go_at_call 64;exact a2 _ _)|(go_at_call 61;exact a3 _ _)|(go_at_call_of 63 st;exact a4 _ _))))
 exact aa1):P:=h
theorem anj(h:P:=by
 clear dY;refine wp_region_quiet_below (by kernel_rfl) (by kernel_rfl) ?_;repeat (first|go_big_quiet_step ((first|(go_at_call 63;exact a1 _ _)|(go_at_call 47;exact a2 _ _)|(go_at_call 64;exact a3 _ _)|(go_at_call 61;exact a4 _ _)))|quiet_step ((first|(go_at_call 63;exact a1 _ _)|(go_at_call 47;exact a2 _ _)|(go_at_call 64;exact a3 _ _)|(go_at_call 61;exact a4 _ _))))
 exact aa1):P:=h
theorem ank(h:P:=by
 clear dY;refine wp_region_quiet_below (by kernel_rfl) (by kernel_rfl) ?_;repeat (first|go_big_quiet_step ((first|(go_at_call 47;exact cN _ _)|(go_at_call 61;exact cS _ _)))|quiet_step ((first|(go_at_call 47;exact cN _ _)|(go_at_call 61;exact cS _ _))))
 exact aa1):P:=h
theorem anl(h:P:=by
 obtain⟨g',off',e,hg',hc⟩:=hat i hi;cases e
 refine⟨rfl,hg',fun j hj=>⟨?_,?_⟩⟩
 ·have:=hc j hj;rwa [Nat.zero_add] at this
 ·unfold World.frozen?;rw [hblk];simp):P:=h
theorem aa7(h:P:=by
 rintro e w' ⟨rfl,A',G',c',hW'⟩;exact⟨rfl,A',G',c',v,by rw [List.append_nil];exact hW'⟩):P:=h
theorem anm(h:P:=by
 generalize l[k]=y at *;go_wp2_with fail;go_round
 case rel=>exact⟨k+1,by omega,by go_num,by rw [ah HS,ah HN];rfl⟩
 case measure=>simp[intOf];omega):P:=h
theorem ap6(h:P:=by
 obtain⟨g,rest,e,hb,_⟩:=vS sW.r (show 0 < n.reqs.length by omega);exact⟨g,e,hb,fun x=>by rw [show fq=some ⟨g,0,none⟩ from e];simp[Value.ownBlock,eq_comm]⟩):P:=h
theorem aa8(h:P:=by
 go_ret;exact⟨aD HN.symm,au w _⟩):P:=h
theorem ano(h:P:=by
 rw [Below.heap_setCell _ _ _ _ hkn',hg.block k (by simp;omega) (fun e=>by have:=hvb k e.symm;omega),Below.heap_alloc _ _ _ (by omega)];exact h.keep.block k hk hkn):P:=h
theorem anp(h:P:=by
 go_wp2_with fail;exact bodyPost_ret (v:= .tuple #[rH ⟨0,F,T,I,L,k,N⟩,.bool false]) (by simp[results,Tryz.results65,go_sem,rH]) rfl ⟨by rw [ah HP],jX⟩):P:=h
theorem anq(h:P:=by
 go_wp2_with fail;exact bodyPost_ret (v:= .tuple #[rH ⟨2,F,T,I,L,k,N⟩,.bool false]) (by simp[results,Tryz.results65,go_sem,rH]) rfl ⟨by rw [ah HP],jX⟩):P:=h
theorem anr(h:P:=by
 rw [ej,←hf,hu] at h2;injection e with e
 subst e;have ea:(⟨g,off,none⟩:Addr).add j=⟨g,off+j,none⟩:=by unfold Addr.add;split<;>simp_all
 rw [ea];exact h2):P:=h
theorem ant(h:P:=by
 have h2:=jl.co x h1;rcases hm' with h3|h3
 ·rw [aT (by omega)] at h2;cases h2
 ·rw [dH h3.1] at h2;omega):P:=h
theorem anu(h:P:=by
 exact⟨e,Nat.lt_of_lt_of_le hg hs,fun j hj=>⟨(World.cell?_of_block (w:=w) hbx).trans (hc j hj).1,(World.frozen?_of_block (w:=w) hbx).trans (hc j hj).2⟩⟩):P:=h
theorem anw(h:P:=by
 intro vs;induction vs with
 |nil=>intro w o;rfl
 |cons v vs ih=>intro w o;exact(ih (w.setCell ⟨g,o,none⟩ v) (o+1)).trans (by rw [World.frozen?_setCell])):P:=h
theorem anx(h:P:=by
 have h:=ah iN k hlt;have h2:=ah kV;rw [←ah HY] at h;exact h.trans (by rw [show(fun s t:Int=>gJ s t)=gJ from rfl,h2];rfl)):P:=h
theorem Vm(h:P:=by
 have:=ready_mono hj hji;rw [H.1] at this;cases this):P:=h
theorem abb(h:P:=by
 unfold World.setCell;simp only[Array.getElem?_modify];rw [if_pos trivial,h];rfl):P:=h
theorem anz(h:P:=by
 rw [hr];refine⟨fun h=>(by cases h),fun j hj=>?_⟩;obtain rfl:j=i:=by simpa using hj
 unfold wpOp;simp only[hi];rw [if_pos hw];exact .inl (h x hx)):P:=h
theorem YZ(h:P:=by
 rw [List.length_append] at hv6;have hv7:v'= .slice a6 (n.out.length+1) c6:=hv6;subst hv7;exact⟨a6,c6,w',hr,by rw [fV];exact ho,hg,hw⟩):P:=h
theorem Y6(h:P:=by
 intro vs;induction vs with
 |nil=>intro w o;rfl
 |cons v vs ih=>intro w o;exact(ih (w.setCell ⟨g,o,none⟩ v) (o+1)).trans (by simp[World.setCell])):P:=h
theorem Y7(h:P:=by
 rcases FW with h|⟨j,y,h1,h2,h3⟩
 ·exact .inl h
 ·exact .inr ⟨j,y,h1,h2,(hbw.cell (p:=⟨g,off+j*4,none⟩) hgw).trans h3⟩):P:=h
theorem LZ(h:P:=by
 rw [h1];exact⟨h2r,by rw [aT (by omega)];omega⟩):P:=h
theorem QJ(h:P:=by
 go_enter Tryz.func133,Tryz.ntmps133
 go_wp2
 go_ret;exact⟨rfl,rfl⟩):P:=h
theorem Y8(h:P:=by
 obtain⟨c0,c1,c2,c3,c4,c5,c6,c7,c8,c9⟩:=gY h.blk;clear h;go_enter Tryz.func168,Tryz.ntmps168
 go_wp2_with fail;go_ret;exact⟨rfl,rfl⟩):P:=h
theorem QK(h:P:=by
 go_enter Tryz.func176,Tryz.ntmps176
 go_wp2
 go_ret;exact⟨rfl,rfl⟩):P:=h
theorem QL(h:P:=by
 go_enter Tryz.func177,Tryz.ntmps177
 go_wp2
 go_ret;exact⟨rfl,rfl⟩):P:=h
theorem Y9(h:P:=by
 have HBAD:=hide (gK hlt (show jc l (j+1)=false by rw [ah gZ];simp[hsl]));clear gZ fF hsl;exact aaV):P:=h
theorem Za(h:P:=by
 have h:=(bq hok).1;unfold bQ at h;simp only[Bool.and_eq_true,decide_eq_true_eq] at h;exact decide_eq_false (by omega)):P:=h
theorem Zb(h:P:=by
 refine⟨h.1,?_⟩;rcases h.2 with h2|⟨g,cap,cur,hv,hg,hr⟩
 ·exact .inl h2
 ·exact .inr ⟨g,cap,cur,hv,Nat.le_trans hb hg,hr⟩):P:=h
theorem Zc(h:P:=by
 have h2I:(40:Int)≤(n.out.length:Int):=by omega
 have q2:decide ((40:Int)≤(n.out.length:Int))=true:=by simpa using h2I
 exact Za0):P:=h
theorem QM(h:P:=by
 unfold wpOp;simp only[hi];rw [if_pos hwi];exact .inl (h1 x hx)):P:=h
theorem QN(h:P:=by
 unfold wpOp;simp only[hj];rw [if_pos hwj];exact .inl (h2 x hx)):P:=h
theorem QO(h:P:=by
 go_enter Tryz.func63,Tryz.ntmps63
 go_wp2
 go_ret;exact⟨rfl,rfl⟩):P:=h
theorem Zd(h:P:=by
 subst hji;exact(hy.toG hb).wpOp hi hx fun y hy'=>⟨hy'.mono (Nat.le_trans hb hx.size),xY (Ge.trans hx hy') H⟩):P:=h
theorem Ze(h:P:=by
 go_enter Tryz.func250,Tryz.ntmps250
 go_wp2
 refine wp_loop_rounds 1 ?_;rw [rounds_succ];go_wp2
 go_ret;exact⟨rfl,rfl⟩):P:=h
theorem Zf(h:P:=by
 go_wp2_with fail;go_roundw
 case rel=>exact⟨k+1,by omega,by go_num,HB1⟩
 case measure=>simp[intOf];omega):P:=h
theorem amF(h:P:=by
 obtain⟨g',off',e0,_,h0,_⟩:=iA.four (HL6.lies aY).1 0 (by simp);cases e0
 simpa using h0):P:=h
theorem QS(h:P:=by
 exact((Below.refl _ _).alloc (Nat.le_refl _) _).alloc (by simp) _):P:=h
theorem Zg(h:P:=by
 go_enter Tryz.func130,Tryz.ntmps130
 go_wp2_with (go_at_call 128;refine(HA _).mono ?_;rintro e w1 ⟨rfl,rfl⟩)
 exact aa8):P:=h
theorem Zh(h:P:=by
 go_enter Tryz.func47,Tryz.ntmps47
 go_wp2_with (go_at_call 124;refine HH.mono ?_;rintro e w1 ⟨rfl,rfl⟩)
 exact aa8):P:=h
theorem Zi(h:P:=by
 go_wp2_with (go_at_call 63;refine(pz _ _ _ r _ h).mono ?_;rintro e w1 ⟨rfl,rfl⟩)
 go_ret;exact⟨rfl,rfl⟩):P:=h
theorem amG(h:P:=by
 cases hq:IQ with
 |nil=>have:=ah WI;rw [hq] at this;simp at this
 |cons a b=>exact⟨a,b,rfl⟩):P:=h
theorem L9(h:P:=by
 exact⟨0,Nat.zero_le _,rfl,Below.refl _ _⟩):P:=h
theorem Zj(h:P:=by
 go_round
 case rel=>exact⟨k+1,x,by omega,by go_num,rfl,yL.symm,HV⟩
 case measure=>simp[intOf];omega):P:=h
theorem Zk(h:P:=by
 rcases hrow.2 with⟨rfl,h0⟩|⟨g,cap,cur,rfl,_⟩
 ·exact⟨none,0,by rw [h0]⟩
 ·exact⟨_,_,rfl⟩):P:=h
theorem Zl(h:P:=by
 rw [List.length_append,List.length_append,fU,List.length_take,List.length_drop,List.length_drop];omega):P:=h
theorem Zm(h:P:=by
 cases hv:v'.ownBlock with
 |none=>exact .inl rfl
 |some k=>exact .inr (fun e=>hne k hv (by injection e))):P:=h
theorem Zn(h:P:=by
 obtain⟨a,cp,he,ha⟩:=GR.own_at (enc:=aS) (sz:=4) (l:=n.out) bH h.o;cases he
 exact ha):P:=h
theorem Zo(h:P:=by
 obtain⟨a,cp,he,ha⟩:=GR.own_at (enc:=aK) (sz:=4) (l:=n.reqs) aY h.r;cases he
 exact ha):P:=h
theorem QT(h:P:=by
 simp only[Bool.and_eq_true,decide_eq_true_eq] at h;omega):P:=h
theorem QU(h:P:=by
 simp only[Bool.and_eq_true,decide_eq_true_eq];omega):P:=h
theorem Zp(h:P:=by
 exact hk2.seen (hk1.seen hno.s hno.c4 hno.ci (by omega) (by omega)) hno.c4 hno.ci (by omega) (by omega)):P:=h
theorem Zq(h:P:=by
 have h:=ah iN k hlt;have h2:=ah kV;rw [←ah HY] at h;rw [h,h2];rfl):P:=h
theorem QV(h:P:=by
 have:=gD hx;rw [this.1];exact dz (by omega)):P:=h
theorem Zr(h:P:=by
 rw [List.length_append,List.length_append,List.length_take,List.length_drop,h1];show _+4+_=_
 omega):P:=h
theorem Zt(h:P:=by
 rcases List.mem_cons.1 (hs a (by simp)) with h|h
 ·exact absurd h hab
 ·exact h):P:=h
theorem Zu(h:P:=by
 go_enter Tryz.func131,Tryz.ntmps131
 go_wp2
 go_ret;exact⟨aD HF.symm,rfl⟩):P:=h
theorem Zv(h:P:=by
 refine vQ hi h hf.symm ?_;have:=Em hs hL;rw [hf] at this;exact this):P:=h
theorem Zw(h:P:=by
 unfold bQ at h;simp only[Bool.and_eq_true] at h;exact(of_decide_eq_true h.1.1.1.2).2):P:=h
theorem QW(h:P:=by
 obtain⟨p,rfl⟩:=regrown_of_below hx;exact hv p):P:=h
theorem Zx(h:P:=by
 go_simp;go_wp2_with fail;go_ret;exact⟨rfl,A,G,c,v,by rw [List.append_nil];exact HZ⟩):P:=h
theorem Zy(h:P:=by
 rcases List.mem_cons.1 h1 with h2|h2
 ·exact .inl (.inr h2)
 ·exact .inr (hF y h2)):P:=h
theorem Zz(h:P:=by
 rcases List.mem_cons.1 hx with h2|h2
 ·omega
 ·have:=hA'.1 x h2;omega):P:=h
theorem QX(h:P:=by
 exact⟨0,Nat.zero_le _,rfl,rfl,Below.refl _ _⟩):P:=h
theorem QY(h:P:=by
 go_ret;exact⟨aD (HP.symm.trans HQ),hB⟩):P:=h
theorem ZA(h:P:=by
 cases sp with
 |nil=>simp at RJ;omega
 |cons s0 sp'=>exact⟨s0,sp',rfl⟩):P:=h
theorem ZC(h:P:=by
 cases v.ownBlock with
 |none=>exact .inl rfl
 |some k=>exact .inr (by intro e;cases e)):P:=h
theorem ZE(h:P:=by
 subst hji;exact hy.wpOp hi hx fun y hy'=>⟨hy',ru (Ge.trans hx hy') H⟩):P:=h
theorem ZF(h:P:=by
 subst hji;exact hy.wpOp hi hx fun y hy'=>⟨hy',xZ (Ge.trans hx hy') H⟩):P:=h
theorem ZH(h:P:=by
 obtain⟨D,⟨es,clock,h1,h2⟩,ha⟩:=h;exact⟨D,⟨es,clock,hb.trans h1,h2⟩,ha⟩):P:=h
theorem ZI(h:P:=by
 subst hji;exact hy.wpOp hi hx fun y hy'=>⟨hy',AO (Ge.trans hx hy') H⟩):P:=h
theorem ZJ(h:P:=by
 rintro e w' ⟨rfl,rfl⟩;exact⟨rfl,A,G,c,v,by rw [List.append_nil];exact h⟩):P:=h
theorem QZ(h:P:=by
 rw [Nat.add_mul,Nat.one_mul] at this;omega):P:=h
theorem ZK(h:P:=by
 go_enter Tryz.func162,Tryz.ntmps162
 go_wp2_with fail;go_ret;exact⟨rfl,rfl⟩):P:=h
theorem ZL(h:P:=by
 rw [if_neg (by omega),if_neg ej];exact h.nd i j hi' hj hij (by omega) h1 h2):P:=h
theorem ZN(h:P:=by
 exact⟨k+1,by omega,by go_num,iD.trans ((Ge.trans Ua Pf).mono iD.size)⟩):P:=h
theorem amK(h:P:=by
 show(takeN n o.m).1.id=n.id
 unfold takeN;split
 ·rfl
 ·split<;>rfl):P:=h
theorem ZO(h:P:=by
 unfold bV nJ at *;split at h
 ·cases h
 ·rename_i hc
  rw [if_neg hc]):P:=h
theorem Ya0(h:P:=by
 open aeT in exact al5):P:=h
theorem Sa0.Ka0(h:P:=by
 have HCQ:=hide (wM.nine (Nat.zero_le _));open acY in exact JJ):P:=h
theorem Sa1.Ka0(h:P:=by
 open acX in exact JJ):P:=h
theorem Sa2.Ka0(h:P:=by
 open acW in exact JJ):P:=h
theorem Sa3.Ka0(h:P:=by
 open acV in exact JJ):P:=h
theorem Sa4.Ka0(h:P:=by
 open acU in exact JJ):P:=h
theorem Sa5.Ka0(h:P:=by
 open acT in exact JJ):P:=h
theorem Sa6.Ka0(h:P:=by
 open acS in exact JJ):P:=h
theorem Ya1(h:P:=by
 have HX:=hide hx;have HKQ:=hide hK;clear hx hK;generalize dW n o=TT at *;open aiv in exact LQ):P:=h
theorem Sa7.Ka1(h:P:=by
 have c0:W.cell? ⟨w2.heap.size,5,none⟩=some (.func (.func 50) #[.pointer (some ⟨wb,0,none⟩)] #[]):=cell_of_row W _ 5 _ _ (0,0) e1;exact Za7):P:=h
theorem Sa8.Ka1(h:P:=by
 have c0:W.cell? ⟨w2.heap.size,4,none⟩=some (.func (.func 111) #[.pointer (some ⟨wb,0,none⟩)] #[]):=cell_of_row W _ 4 _ _ (0,0) e1;exact Za7):P:=h
theorem Sa9.Ka1(h:P:=by
 have c0:W.cell? ⟨w2.heap.size,3,none⟩=some (.func (.func 110) #[.pointer (some ⟨wb,0,none⟩)] #[]):=cell_of_row W _ 3 _ _ (0,0) e1;exact Za7):P:=h
theorem aoq.Ka1(h:P:=by
 have c0:W.cell? ⟨w2.heap.size,2,none⟩=some (.func (.func 109) #[.pointer (some ⟨wb,0,none⟩)] #[]):=cell_of_row W _ 2 _ _ (0,0) e1;exact Za7):P:=h
theorem aor.Ka1(h:P:=by
 have c0:W.cell? ⟨w2.heap.size,1,none⟩=some (.func (.func 108) #[.pointer (some ⟨wb,0,none⟩)] #[]):=cell_of_row W _ 1 _ _ (0,0) e1;exact Za7):P:=h
theorem aos.Ka1(h:P:=by
 have c0:W.cell? ⟨w2.heap.size,0,none⟩=some (.func (.func 107) #[.pointer (some ⟨wb,0,none⟩)] #[]):=cell_of_row W _ 0 _ _ (0,0) e1;exact Za7):P:=h
theorem Ya2(h:P:=by
 have ND:aC [sb,G.s] wc W6:=by
  exact apZ
 have HIW:Hid (GR.W aR 1 W6 (some ⟨gi,0,none⟩) gi (aW s0 mL)):=by
  exact apV
 have UW:Hid (W6.heap[sb]?=some (.cells #[.int .i64 mF,.int .i64 (dU s0 mL),.slice (some ⟨gi,0,none⟩) (aW s0 mL).length Gu] 90 (0,0))):=by rw [Pp];exact fI _ hne1 (fI _ hne1 (fI _ hne1 (bg Qh 2 _)))
 have jK:=hide (ND.obj wN (fun hx=>by simp at hx;omega));have Uw:=hide (ND.obj acA (fun hx=>by simp at hx;omega));have iJ:=hide (ND.obj F6 (fun hx=>by simp at hx;omega))
 have hBs:B≤G.s:=by
  exact ap0
 have acg:=hide ((nK.mono hB).trans (ND.below (B:=B) (fun x hx=>by simp at hx;omega) (Nat.le_trans hB nK.size)))
 have acy:=hide (Apart.keeps (c:=c) (Apart.of_below nK) nK.size ND (fun x hx=>by
  have h1:x=sb∨x=G.s:=by simpa using hx
  rcases h1 with rfl|rfl
  ·left;omega
  ·right;omega))
 have arH:gi < W6.heap.size:=Nat.lt_of_lt_of_le aqs ND.size;have ar7:w.heap.size+3≤W6.heap.size:=by have:=aA UW;omega
 have HCO:Hid (∀x,x < w.heap.size→6 < c x→qw gi (aW s0 mL) (newC w.heap.size 9 c) x=9):=fun x hx h=>by rw [qG (fun hm=>by have:=(gD hm).1;omega),dH hx];exact H9 x h
 have yK:Hid (∀x,w.heap.size≤x→x≠gi→qw gi (aW s0 mL) (newC w.heap.size 9 c) x=9):=fun x hx h=>by rw [qG (fun hm=>h (gD hm).1)];exact aT hx
 clear Pp ND hW5 JB y0 y1 y2 x0 x1 x2 s40 s41 s42 sf c0 c1 c2 c3 c4 c5 c6 c7 c8 hnl wN acA F6 Qh nK;obtain⟨c0,c1,c2,c3,c4,c5,c6,c7,c8⟩:=nine jK;obtain⟨m0,m1,m2,m3,m4,m5,m6⟩:=iq Uw;have hnl:=aA jK;have hml:=aA Uw;go_upto_region 16 with fail;refine wp_at (fun W7 FD=>?_);have tJ:=au W6 (.cells #[.int .i64 2,.int .i64 n.id,.int .i64 mF,.int .i64 mI,.int .i64 0,.string ⟨#[]⟩,.int .i64 0] 32);have ha7:=heap_alloc_new W6 (.cells #[.int .i64 2,.int .i64 n.id,.int .i64 mF,.int .i64 mI,.int .i64 0,.string ⟨#[]⟩,.int .i64 0] 32);rw [←FD] at tJ ha7;have Px:=hide ha7;have mq:=hide (aj jK tJ);have Ux:=hide (aj Uw tJ);have kC:=hide (aj iJ tJ);have UY:=hide (aj UW tJ);have Un:=hide (HIW.below tJ);have UA:=hide (Lg.kc (k:=9) (KC.of_below tJ) (by omega));have aak:=hide (acg.trans (tJ.mono (Nat.le_trans hB (by omega))));have aar:=hide (acy.step (by omega) tJ);obtain⟨ab,hab⟩:∃ab,W6.heap.size=ab:=⟨_,rfl⟩;have arC:w.heap.size+3≤ab:=by omega
 have habs:sb < ab:=by have:=aA UW;omega
 have arD:gi < ab:=by omega
 rw [hab] at Px;rw [hab] at *;have hz7:=aA Px;clear FD tJ ha7 c0 c1 c2 c3 c4 c5 c6 c7 c8 m0 m1 m2 m3 m4 m5 m6 hnl hml jK Uw iJ UW HIW Lg acg acy;obtain⟨m0,m1,m2,m3,m4,m5,m6⟩:=iq Ux;obtain⟨s70,s71,s72⟩:=xI UY;have hml:=aA Ux;have aqW:=aA UY;have PN:=hide (fun W (ha:dK W (some ⟨gi,0,none⟩) (aW s0 mL))=>MC (some ⟨gi,0,none⟩) Gu (aW s0 mL) mI W (by omega) ha);exact Ka2):P:=h
theorem aot.Ka2(h:P:=by
 open adO in exact alZ):P:=h
theorem aou.Ka2(h:P:=by
 open adN in exact alZ):P:=h
theorem aov.Ka2(h:P:=by
 obtain⟨c0,c1,c2,c3,c4,c5,c6,c7,c8⟩:=nine mq;open ajb in exact XP):P:=h
theorem Ya3(h:P:=by
 have hiI:(i:Int) < (n.reqs.length:Int):=by omega
 have acI:=hide hrq;clear hrq;have hp:=gQ hok;have FZ:=hide (fun W1 (ha:iA W1 fq n.reqs)=>vZ n (⟨a_k,iy,dA,dJ,fq,aI,bf,aM,aJ,aQ⟩:bE) no W1 (by omega) hp.1 ha);rw [hJ] at FZ;clear hp hok hJ;unfold gG;have H9:=hide h9;clear h9;have jY:=hide (h.nine hB);clear h;go_enter Tryz.func39,Tryz.ntmps39
 go_upto_region 1 with fail;refine wp_at (fun W0 hW=>?_);obtain⟨e1,e2,e3,e4⟩:=eT w (.cells (fZ n (⟨a_k,iy,dA,dJ,fq,aI,bf,aM,aJ,aQ⟩:bE)) 30) (.cells #[.int .i64 K,.int .i64 no,.string k,.int .i64 nn,.int .i64 mK,.int .i64 mF,.int .i64 mT,.int .i64 mI,.int .i64 mL,.string mk,.int .i64 mN] 34) (.cells iO 30);open ajD in exact Qu):P:=h
theorem aow.Ka3(h:P:=by
 dsimp only at q0 q1 q2 q3 h1 h2 h3;open apK in exact alR):P:=h
theorem aox.Ka3(h:P:=by
 dsimp only at q0 q1 q2 q3 h1 h2 h3;exact aaT):P:=h
theorem aoy.Ka3(h:P:=by
 dsimp only at q0 q1 q2 q3 h1 h2;exact aaT):P:=h
theorem aoz.Ka3(h:P:=by
 dsimp only at q0 q1 q2 q3 h1;exact aaT):P:=h
theorem Ya4(h:P:=by
 open afE in exact amj):P:=h
theorem aoA.Ka4(h:P:=by
 obtain⟨c0,c1,c2,c3,c4,c5,c6,c7,c8⟩:=nine iQ;have hml:=aA uJ;have hnl:=aA iQ;go_wp2_with fail;refine(HGV W2 (Nat.le_trans hB HB2.size) MQ).mono ?_;open ahA in exact Xh):P:=h
theorem aoB.Ka4(h:P:=by
 open acR in exact alT):P:=h
theorem aoC.Ka4(h:P:=by
 open apT in exact alT):P:=h
theorem aoD.Ka4(h:P:=by
 obtain⟨c0,c1,c2,c3,c4,c5,c6,c7,c8⟩:=nine iQ;have hml:=aA uJ;have hnl:=aA iQ;have FN:=hide (World.ownsRow_lit (base:=W2.heap.size) (e:=95) (size:=4) W2 #[] 0 (Nat.le_refl _) (by decide) rfl);go_wp2_with fail;clear m0 m1 m2 m3 m4 m5 m6 c0 c1 c2 c3 c4 c5 c6 c7 c8 hml hnl;go_loopw [7,8] (fun v i wr=>∃(k:Nat) (a:Option Addr) (cp:Nat),k≤n.out.length∧v= .slice a (FL k).length cp∧i= .int .i64 k∧wr.ownsRow W2.heap.size 95 4 (.slice a (FL k).length cp) (FL k).length (GR.flat aS (FL k))∧Below W2.heap.size W2 wr) (fun _ i _=>n.out.length - (intOf i).toNat)
 case atStart=>exact⟨0,some ⟨W2.heap.size,0,none⟩,0,Nat.zero_le _,by rw [ah HF0];rfl,rfl,by rw [ah HF0];exact FN,au W2 _⟩
 case round=>
  obtain⟨k,a,cp,hk,rfl,rfl,hown,hbw⟩:=hrel;have HO:=hide hown;have iD:=hide hbw;have jC:=hide (aj iQ hbw);have MO:=hide (aj uJ hbw);have HNK:=hide (HFN k);clear hown hbw;obtain⟨m0,m1,m2,m3,m4,m5,m6⟩:=iq MO;obtain⟨c0,c1,c2,c3,c4,c5,c6,c7,c8⟩:=nine jC;have hml:=aA MO;have hnl:=aA jC;by_cases hlt:k < n.out.length
  ·have GL:(k:Int) < (n.out.length:Int):=by omega
   have Wu:=hide (HFS k hlt);obtain⟨g,off,e0,hg,s0,s1,s2,s3⟩:=SentAt.four (GR.At.below MQ.at.o iD) k hlt;rw [e0] at c5;clear e0;generalize n.out[k]=sk at *;obtain⟨si,st,sk,sn⟩:=sk;dsimp only at s0 s1 s2 s3 Wu;obtain⟨FK,hFK⟩:∃FK,FL (k+1)=FK:=⟨_,rfl⟩;have HX0:=hide hFK;rw [hFK] at Wu;clear hFK;by_cases hA:si=mI
   ·by_cases hB2:st=mF
    ·have HX:Hid (FK=FL k):=by unfold Hid;rw [ah Wu,if_pos ⟨hA,hB2⟩]
     have x0:(si != mI)=false:=by simp[hA]
     have x1:(st != mF)=false:=by simp[hB2]
     clear hA hB2 Wu;go_wp2_with fail;go_quiet (fail);go_wp2_with fail;go_roundw
     case rel=>exact⟨k+1,a,cp,by omega,by rw [ah HX0,ah HX],by go_num,by rw [ah HX0,ah HX];exact HO,iD.trans (Below.mono (B:=(wr.drewN nq).heap.size) ⟨rfl,rfl,rfl,Nat.le_refl _,fun _ _=>rfl⟩ iD.size)⟩
     case measure=>simp[intOf];omega
    ·have HX:Hid (FK=FL k++[⟨si,st,sk,sn⟩]):=by unfold Hid;rw [ah Wu,if_neg (fun e=>hB2 e.2)]
     have x0:(si != mI)=false:=by simp[hA]
     have x1:(st != mF)=true:=by simpa using hB2
     clear hA hB2 Wu;exact amN
   ·have HX:Hid (FK=FL k++[⟨si,st,sk,sn⟩]):=by unfold Hid;rw [ah Wu,if_neg (fun e=>hA e.1)]
    have x0:(si != mI)=true:=by simpa using hA
    clear hA Wu;exact amN
  ·have hke:k=n.out.length:=by omega
   subst hke;have hnlt:decide ((n.out.length:Int) < (n.out.length:Int))=false:=by simp
   have jD:=hide (aj iI iD);have HN3:=hide (MQ.kc (k:=9) (KC.of_below iD) (by omega));have HB3:=hide (HB2.trans (iD.mono HB2.size));have h2r:=aA iI;clear hlt hk HNK HFS HFN HF0 FN iD iQ uJ iI MQ HB2;have f5n:=ay jC 5;go_upto_region 14 with fail;refine wp_at (fun Z hZ=>?_);have wN:Hid (Z.heap[w.heap.size]?=some (.cells #[.int .i64 n.id,.int .i64 n.par,.slice A.k n.kids.length A.ck,.int .i64 n.next,.slice A.p n.pu.length A.cp,.slice a (FL n.out.length).length cp,.slice A.s n.seen.length A.cs,.int .i64 n.old,.slice A.r n.reqs.length A.cr] 30 (0,0))):=by rw [hZ];exact lM jC
   have F6:Hid (Z.heap[w.heap.size+2]?=some (.cells iO 30 (0,0))):=by rw [hZ];exact jd jD (by omega)
   have HN4:Hid (NQ Z B n A G (newC w.heap.size 9 c)):=by rw [hZ];exact HN3.kc (k:=9) (KC.set (aT (Nat.le_refl _))) (by omega)
   have O9:Hid (Z.ownsRow W2.heap.size 95 4 (.slice a (FL n.out.length).length cp) (FL n.out.length).length (GR.flat aS (FL n.out.length))):=by rw [hZ];exact cK HO (aC.set _) (fun y hy=>by have:y=w.heap.size:=(by simpa using hy);omega)
   have nK:Hid (Below B w Z):=by rw [hZ];exact(HB3.mono hB).setCell (p:=⟨w.heap.size,5,none⟩) hB _
   have HK4:Hid (Apart c w Z):=by rw [hZ];exact(Apart.of_below HB3).keeps HB3.size (aC.set _) (fun y hy=>by have:y=w.heap.size:=(by simpa using hy);omega)
   clear hZ f5n c0 c1 c2 c3 c4 c5 c6 c7 c8 m0 m1 m2 m3 m4 m5 m6 hml hnl jC MO jD HN3 HB3 HO;have qB:=hide (aj F6 (au Z (.cells #[] 32)));have qA:=hide (nK.trans ((au Z (.cells #[] 32)).mono (Nat.le_trans hB nK.size)));have HKA:=hide (HK4.step nK.size (au Z (.cells #[] 32)));have O7:=hide (HN4.kc (k:=9) (KC.of_below (au Z (.cells #[] 32))) (by omega));have HOA:=hide (GR.own_below O9 (au Z (.cells #[] 32)));obtain⟨c0,c1,c2,c3,c4,c5,c6,c7,c8⟩:=nine wN;open adK in exact Ni):P:=h
theorem aoE.Ka4(h:P:=by
 obtain⟨c0,c1,c2,c3,c4,c5,c6,c7,c8⟩:=nine iQ;have hml:=aA uJ;have hnl:=aA iQ;go_wp2_with fail;refine(Ls W2 (Nat.le_trans hB HB2.size) MQ).mono ?_;open ahz in exact Xh):P:=h
theorem Pk(h:P:=by
 obtain⟨d0,d1,d2,d3,d4,d5,d6,d7,d8⟩:=nine rC;have f0:=ay rC 0;have f1:=ay rC 1;have f2:=ay rC 2;have f3:=ay rC 3;have f4:=ay rC 4;have f5:=ay rC 5;have f6:=ay rC 6;have f7:=ay rC 7;have f8:=ay rC 8;have hrl:=aA rC;exact Ka5):P:=h
theorem aoF.Ka5(h:P:=by
 open ahC in exact Xi):P:=h
theorem aoG.Ka5(h:P:=by
 open ahB in exact Xi):P:=h
theorem aoH.Ka5(h:P:=by
 open ahh in exact Vi):P:=h
theorem aoI.Ka5(h:P:=by
 open ahE in exact Xj):P:=h
theorem aoJ.Ka5(h:P:=by
 open ahD in exact Xj):P:=h
theorem aoK.Ka5(h:P:=by
 open ahg in exact Vi):P:=h
theorem aoL.Ka5(h:P:=by
 open ahX in exact Xn):P:=h
theorem aoM.Ka5(h:P:=by
 open ahW in exact Xn):P:=h
theorem aoN.Ka5(h:P:=by
 open ahf in exact Vi):P:=h
theorem aoO.Ka5(h:P:=by
 open ahZ in exact Xo):P:=h
theorem aoP.Ka5(h:P:=by
 open ahY in exact Xo):P:=h
theorem aoQ.Ka5(h:P:=by
 open ahe in exact Vi):P:=h
theorem Ya6(h:P:=by
 open afa in exact Nj):P:=h
theorem aoR.Ka6(h:P:=by
 go_wp2_with fail;exact bodyPost_ret (v:= .tuple #[rH ⟨2,F,T,I,0,ByteArray.empty,0⟩,.bool true]) (by simp[results,Tryz.results65,go_sem,rH]) rfl ⟨by rw [ah HP],jX⟩):P:=h
theorem aoS.Ka6(h:P:=by
 go_wp2_with fail;exact bodyPost_ret (v:= .tuple #[rH ⟨2,F,T,I,0,ByteArray.empty,N⟩,.bool false]) (by simp[results,Tryz.results65,go_sem,rH]) rfl ⟨by rw [ah HP],jX⟩):P:=h
theorem aoT.Ka6(h:P:=by
 go_wp2_with fail;exact bodyPost_ret (v:= .tuple #[rH ⟨2,F,T,I,0,k,N⟩,.bool false]) (by simp[results,Tryz.results65,go_sem,rH]) rfl ⟨by rw [ah HP],jX⟩):P:=h
theorem aoU.Ka6(h:P:=by
 exact anq):P:=h
theorem Ya7(h:P:=by
 have HW:=hide h;obtain⟨K,no,k,nn,⟨mK,mF,mT,mI,mL,mk,mN⟩⟩:=o;dsimp only at *;open apx in exact DX):P:=h
theorem aoV.Ka7(h:P:=by
 go_enter Tryz.func109,Tryz.ntmps109
 open apI in exact Nh):P:=h
theorem aoW.Ka7(h:P:=by
 go_enter Tryz.func109,Tryz.ntmps109
 open apH in exact Nh):P:=h
theorem aoX.Ka7(h:P:=by
 go_enter Tryz.func109,Tryz.ntmps109
 exact amU):P:=h
theorem aoY.Ka7(h:P:=by
 go_enter Tryz.func108,Tryz.ntmps108
 open apG in exact Nh):P:=h
theorem aoZ.Ka7(h:P:=by
 go_enter Tryz.func108,Tryz.ntmps108
 open apF in exact Nh):P:=h
theorem ao0.Ka7(h:P:=by
 go_enter Tryz.func108,Tryz.ntmps108
 exact amU):P:=h
theorem ao1.Ka7(h:P:=by
 go_enter Tryz.func109,Tryz.ntmps109
 open apE in exact Nh):P:=h
theorem Ya8(h:P:=by
 cases h1:decide (old+1≤si∧si≤1000000000)
 case' false=>
  have a1:=rIn si (old+1) 1000000000 false W1 h1
  have HV:=hide (show bb=true by rw [←ah dY];simp[h1])
  clear dY
  refine wp_region_quiet_below (by kernel_rfl) (by kernel_rfl) ?_
  repeat (first|go_big_quiet_step ((first|(go_at_call_of 63 si;exact a1 _ _)))|quiet_step ((first|(go_at_call_of 63 si;exact a1 _ _))))
  refine wpQuiet_nil ?_
  intro _ hw'
  obtain⟨⟨dq,osq⟩,hw''⟩:=hw'
  subst hw''
  go_wp2_with fail
  go_meet
  case rel=>exact tC
 have a1:=rIn si (old+1) 1000000000 true W1 h1;cases h2:keyOk sx.data.toList
 case' false=>
  have a2:=VW sx false W1 (Nat.le_trans hks (by unfold maxLen;omega)) h2
  have HV:=hide (show bb=true by rw [←ah dY];simp[h2])
  clear dY
  refine wp_region_quiet_below (by kernel_rfl) (by kernel_rfl) ?_
  repeat (first|go_big_quiet_step ((first|(go_at_call_of 63 si;exact a1 _ _)|(go_at_call 64;exact a2 _ _)))|quiet_step ((first|(go_at_call_of 63 si;exact a1 _ _)|(go_at_call 64;exact a2 _ _))))
  refine wpQuiet_nil ?_
  intro _ hw'
  obtain⟨⟨dq,osq⟩,hw''⟩:=hw'
  subst hw''
  go_wp2_with fail
  go_meet
  case rel=>exact tC
 have a2:=VW sx true W1 (Nat.le_trans hks (by unfold maxLen;omega)) h2;cases h3:eD sn
 case' false=>
  have a3:=Dl sn false W1 h3
  have HV:=hide (show bb=true by rw [←ah dY];simp[h3])
  clear dY
  refine wp_region_quiet_below (by kernel_rfl) (by kernel_rfl) ?_
  repeat (first|go_big_quiet_step ((first|(go_at_call_of 63 si;exact a1 _ _)|(go_at_call 64;exact a2 _ _)|(go_at_call 61;exact a3 _ _)))|quiet_step ((first|(go_at_call_of 63 si;exact a1 _ _)|(go_at_call 64;exact a2 _ _)|(go_at_call 61;exact a3 _ _))))
  refine wpQuiet_nil ?_
  intro _ hw'
  obtain⟨⟨dq,osq⟩,hw''⟩:=hw'
  subst hw''
  go_wp2_with fail
  go_meet
  case rel=>exact tC
 have a3:=Dl sn true W1 h3;cases h4:decide (0≤st∧st≤2)
 case' false=>
  have a4:=rIn st 0 2 false W1 h4
  have HV:=hide (show bb=true by rw [←ah dY];simp[h4])
  clear dY
  refine wp_region_quiet_below (by kernel_rfl) (by kernel_rfl) ?_
  repeat (first|go_big_quiet_step ((first|(go_at_call_of 63 si;exact a1 _ _)|(go_at_call 64;exact a2 _ _)|(go_at_call 61;exact a3 _ _)|(go_at_call_of 63 st;exact a4 _ _)))|quiet_step ((first|(go_at_call_of 63 si;exact a1 _ _)|(go_at_call 64;exact a2 _ _)|(go_at_call 61;exact a3 _ _)|(go_at_call_of 63 st;exact a4 _ _))))
  refine wpQuiet_nil ?_
  intro _ hw'
  obtain⟨⟨dq,osq⟩,hw''⟩:=hw'
  subst hw''
  go_wp2_with fail
  go_meet
  case rel=>exact tC
 have a4:=rIn st 0 2 true W1 h4;exact Ka8):P:=h
theorem ao2.Ka8(h:P:=by
 by_cases hp:y < si
 case' neg=>
  have hy:decide (si≤y)=true:=decide_eq_true (by omega)
  have HV:=hide (show bb=true by rw [←ah dY];simp[hp])
  clear dY
  refine wp_region_quiet_below (by kernel_rfl) (by kernel_rfl) ?_
  repeat (first|go_big_quiet_step ((first|(go_at_call_of 63 si;exact a1 _ _)|(go_at_call 64;exact a2 _ _)|(go_at_call 61;exact a3 _ _)|(go_at_call_of 63 st;exact a4 _ _)))|quiet_step ((first|(go_at_call_of 63 si;exact a1 _ _)|(go_at_call 64;exact a2 _ _)|(go_at_call 61;exact a3 _ _)|(go_at_call_of 63 st;exact a4 _ _))))
  refine wpQuiet_nil ?_
  intro _ hw'
  obtain⟨⟨dq,osq⟩,hw''⟩:=hw'
  subst hw''
  go_wp2_with fail
  go_meet
  case rel=>exact tC
 have hy:decide (si≤y)=false:=decide_eq_false (by omega);have HV:=hide (show bb=false by rw [←ah dY];simp[h1,h2,h3,h4,hp]);exact ani):P:=h
theorem ao3.Ka8(h:P:=by
 have HV:=hide (show bb=false by rw [←ah dY];simp[h1,h2,h3,h4]);exact ani):P:=h
theorem Ya9(h:P:=by
 cases h1:decide (1≤si∧si≤next - 1)
 case' false=>
  have a1:=rIn si 1 (next - 1) false W1 h1
  have HV:=hide (show bb=true by rw [←ah dY];simp[h1])
  clear dY
  refine wp_region_quiet_below (by kernel_rfl) (by kernel_rfl) ?_
  repeat (first|go_big_quiet_step ((first|(go_at_call 63;exact a1 _ _)))|quiet_step ((first|(go_at_call 63;exact a1 _ _))))
  refine wpQuiet_nil ?_
  intro _ hw'
  obtain⟨⟨dq,osq⟩,hw''⟩:=hw'
  subst hw''
  go_wp2_with fail
  go_meet
  case rel=>exact tC
 have a1:=rIn si 1 (next - 1) true W1 h1;cases h2:NN st
 case' false=>
  have a2:=ah Js st false W1 qp h2
  have HV:=hide (show bb=true by rw [←ah dY];simp[h2])
  clear dY
  refine wp_region_quiet_below (by kernel_rfl) (by kernel_rfl) ?_
  repeat (first|go_big_quiet_step ((first|(go_at_call 63;exact a1 _ _)|(go_at_call 47;exact a2 _ _)))|quiet_step ((first|(go_at_call 63;exact a1 _ _)|(go_at_call 47;exact a2 _ _))))
  refine wpQuiet_nil ?_
  intro _ hw'
  obtain⟨⟨dq,osq⟩,hw''⟩:=hw'
  subst hw''
  go_wp2_with fail
  go_meet
  case rel=>exact tC
 have a2:=ah Js st true W1 qp h2;cases h3:keyOk sx.data.toList
 case' false=>
  have a3:=VW sx false W1 (Nat.le_trans hks (by unfold maxLen;omega)) h3
  have HV:=hide (show bb=true by rw [←ah dY];simp[h3])
  clear dY
  refine wp_region_quiet_below (by kernel_rfl) (by kernel_rfl) ?_
  repeat (first|go_big_quiet_step ((first|(go_at_call 63;exact a1 _ _)|(go_at_call 47;exact a2 _ _)|(go_at_call 64;exact a3 _ _)))|quiet_step ((first|(go_at_call 63;exact a1 _ _)|(go_at_call 47;exact a2 _ _)|(go_at_call 64;exact a3 _ _))))
  refine wpQuiet_nil ?_
  intro _ hw'
  obtain⟨⟨dq,osq⟩,hw''⟩:=hw'
  subst hw''
  go_wp2_with fail
  go_meet
  case rel=>exact tC
 have a3:=VW sx true W1 (Nat.le_trans hks (by unfold maxLen;omega)) h3;cases h4:eD sn
 case' false=>
  have a4:=Dl sn false W1 h4
  have HV:=hide (show bb=true by rw [←ah dY];simp[h4])
  clear dY
  refine wp_region_quiet_below (by kernel_rfl) (by kernel_rfl) ?_
  repeat (first|go_big_quiet_step ((first|(go_at_call 63;exact a1 _ _)|(go_at_call 47;exact a2 _ _)|(go_at_call 64;exact a3 _ _)|(go_at_call 61;exact a4 _ _)))|quiet_step ((first|(go_at_call 63;exact a1 _ _)|(go_at_call 47;exact a2 _ _)|(go_at_call 64;exact a3 _ _)|(go_at_call 61;exact a4 _ _))))
  refine wpQuiet_nil ?_
  intro _ hw'
  obtain⟨⟨dq,osq⟩,hw''⟩:=hw'
  subst hw''
  go_wp2_with fail
  go_meet
  case rel=>exact tC
 have a4:=Dl sn true W1 h4;exact Ka9):P:=h
theorem ao4.Ka9(h:P:=by
 by_cases hp:y < si
 case' neg=>
  have hy:decide (si≤y)=true:=decide_eq_true (by omega)
  have HV:=hide (show bb=true by rw [←ah dY];simp[hp])
  clear dY
  refine wp_region_quiet_below (by kernel_rfl) (by kernel_rfl) ?_
  repeat (first|go_big_quiet_step ((first|(go_at_call 63;exact a1 _ _)|(go_at_call 47;exact a2 _ _)|(go_at_call 64;exact a3 _ _)|(go_at_call 61;exact a4 _ _)))|quiet_step ((first|(go_at_call 63;exact a1 _ _)|(go_at_call 47;exact a2 _ _)|(go_at_call 64;exact a3 _ _)|(go_at_call 61;exact a4 _ _))))
  refine wpQuiet_nil ?_
  intro _ hw'
  obtain⟨⟨dq,osq⟩,hw''⟩:=hw'
  subst hw''
  go_wp2_with fail
  go_meet
  case rel=>exact tC
 have hy:decide (si≤y)=false:=decide_eq_false (by omega);have HV:=hide (show bb=false by rw [←ah dY];simp[h1,h2,h3,h4,hp]);exact anj):P:=h
theorem ao5.Ka9(h:P:=by
 have HV:=hide (show bb=false by rw [←ah dY];simp[h1,h2,h3,h4]);exact anj):P:=h
theorem alN(h:P:=by
 have CP:=hide (fun W (ha:aH W (some ⟨gp,0,none⟩) n.pu)=>qX (some ⟨gp,0,none⟩) bf n.pu key W hl ha);rw [hpp] at CP;unfold wI at CP;clear hpp;have hbw0:=au w (.cells (fZ n (⟨a_k,(some ⟨gp,0,none⟩),dA,dJ,fq,aI,bf,aM,aJ,aQ⟩:bE)) 30);have jY:=hide (h.nine hB);clear h;go_enter Tryz.func42,Tryz.ntmps42
 go_upto_region 1 with fail;refine wp_at (fun W0 hW=>?_);obtain⟨e1,e2,e3⟩:=jo w (.cells (fZ n (⟨a_k,(some ⟨gp,0,none⟩),dA,dJ,fq,aI,bf,aM,aJ,aQ⟩:bE)) 30) (.cells iO 30);open ags in exact amu):P:=h
theorem ao6.Ka10(h:P:=by
 have hn6:=aA jK;go_upto_region 8 with fail;refine wp_at (fun Z7 hZ=>?_)
 have HS7:Hid (Z7.heap[Z6.heap.size]?=some (.cells #[.int .i64 n.next,.int .i64 dst,.string key,.int .i64 pf] 95 (0,0))):=by
  rw [hZ];exact heap_alloc_new Z6 _
 open aee in exact al3):P:=h
theorem ao7.Ka10(h:P:=by
 have hn6:=aA jK;go_upto_region 8 with fail;refine wp_at (fun Z7 hZ=>?_)
 have HS7:Hid (Z7.heap[Z6.heap.size]?=some (.cells #[.int .i64 n.next,.int .i64 dst,.string key,.int .i64 most] 95 (0,0))):=by
  rw [hZ];exact heap_alloc_new Z6 _
 open aed in exact al3):P:=h
theorem alO(h:P:=by
 have hiI:(i:Int) < (n.reqs.length:Int):=by omega
 have HST:=hide hst;clear hR hst;have hp:=gQ hok;have FZ:=hide (fun W1 (ha:iA W1 fq n.reqs)=>vZ n (⟨a_k,iy,dA,dJ,fq,aI,bf,aM,aJ,aQ⟩:bE) no W1 (by omega) hp.1 ha);rw [hJ] at FZ;clear hp hok;unfold gG;have H9:=hide h9;clear h9;have hbw0:=au w (.cells (fZ n (⟨a_k,iy,dA,dJ,fq,aI,bf,aM,aJ,aQ⟩:bE)) 30);open aiG in exact LV):P:=h
theorem ao8.Ka11(h:P:=by
 clear hW' e4 eU;exact bodyPost_ret (v:= .tuple #[.agg #[.int .i64 n.id,.int .i64 n.par,.slice a_k n.kids.length aI,.int .i64 n.next,.slice iy n.pu.length bf,.slice dA n.out.length aM,.slice dJ n.seen.length aJ,.int .i64 n.old,.slice (some ⟨g,off,none⟩) n.reqs.length aQ],.int .i64 0]) (by simp[results,Tryz.results40,go_sem,x0,x1,x2,x3,x4,x5,x6,x7,x8]) rfl ⟨(⟨a_k,iy,dA,dJ,(some ⟨g,off,none⟩),aI,bf,aM,aJ,aQ⟩:bE),rfl,HAT,jW,oJ⟩):P:=h
theorem ao9.Ka11(h:P:=by
 clear hW' e4 eU;exact bodyPost_ret (v:= .tuple #[.agg #[.int .i64 n.id,.int .i64 n.par,.slice a_k n.kids.length aI,.int .i64 n.next,.slice iy n.pu.length bf,.slice dA n.out.length aM,.slice dJ n.seen.length aJ,.int .i64 n.old,.slice (some ⟨g,off,none⟩) n.reqs.length aQ],.int .i64 1]) (by simp[results,Tryz.results40,go_sem,x0,x1,x2,x3,x4,x5,x6,x7,x8]) rfl ⟨(⟨a_k,iy,dA,dJ,(some ⟨g,off,none⟩),aI,bf,aM,aJ,aQ⟩:bE),rfl,HAT,jW,oJ⟩):P:=h
theorem aaE(h:P:=by
 obtain⟨gi,Gu,rfl,uZ,aql,hb4⟩:=hcut;have Qh:=hide (aj UU hb4);have wN:=hide (aj jC hb4);have acA:=hide (aj MO hb4);have F6:=hide (aj jD hb4);have nK:=hide (HB3.trans (hb4.mono HB3.size));have aat:=hide (acD.kc (k:=9) (KC.of_below hb4) (by omega));have hgi:W3.heap.size≤gi:=(uZ.lt gi rfl).1;have aqs:gi < wc.heap.size:=(uZ.lt gi rfl).2
 have arE:(aW s0 mL).length≤Gu:=by
  exact ap1
 have ar5:=aA Qh;have hIL:(aW s0 mL).length≤1000:=Nat.le_trans (List.length_filter_le _ _) hil;have hW5:WO (wc.setCell ⟨sb,2,none⟩ (.slice (some ⟨gi,0,none⟩) (aW s0 mL).length Gu)) (some ⟨gi,0,none⟩) Gu gi (aW s0 mL):=(WO.of_own (Xf aN uZ) uZ aql).keeps (aC.set _) (fun x hx hm=>by have h1:=(gD hx).1;simp at hm;omega);have wM:=hide (aat.kc (k:=9) (w':=wc.setCell ⟨sb,2,none⟩ (.slice (some ⟨gi,0,none⟩) (aW s0 mL).length Gu)) (KC.set (aT (by omega))) (by omega));have JB:=hide (wM.seenPut i hi ⟨mF,dU s0 mL,aW s0 mL⟩ (some ⟨gi,0,none⟩) Gu gi hW5 (fun x hx=>by rw [(gD hx).1];exact aT (by omega)));have arL:G.s≠w.heap.size:=by omega
 obtain⟨T,hT,hlT,hrT⟩:=aat.s;obtain⟨_,_,hcT⟩:=hT i (by omega);open agx in exact amw):P:=h
theorem apa.Ka12(h:P:=by
 open ai4 in exact XL):P:=h
theorem apb.Ka12(h:P:=by
 open ai3 in exact XL):P:=h
theorem apc.Ka12(h:P:=by
 have Lg:Hid (NQ W6 B (bY n (n.seen.set i ⟨mF,dU s0 mL,aW s0 mL⟩)) (⟨a_k,iy,dA,(some ⟨G.s,0,none⟩),fq,aI,bf,aM,aJ,aQ⟩:bE) ⟨G.k,G.p,G.o,G.s,G.r,ow G.i i gi⟩ (qw gi (aW s0 mL) (newC w.heap.size 9 c))):=by rw [Pp];exact JB
 open aov in exact Ya2):P:=h
theorem DW(h:P:=by
 have hb:=au W0 (.cells #[] 32);have hW1:W1=W0.alloc (.cells #[] 32):=by rw [hW,←hW0]
 rw [←hW1] at hb;have HN:=hide (aj e1 hb);have HO:=hide (aj e2 hb);have HR:=hide (aj e3 hb);have HB1:=hide (e4.trans (hb.mono e4.size));clear hW hW0 hW1 e1 e2 e3 e4 hb;obtain⟨c0,c1,c2,c3,c4,c5,c6,c7,c8⟩:=nine HN;obtain⟨⟨p0,p1,p2,p3,p4,p5,p6,p7,p8,p9,lT⟩,_⟩:=dP HO;exact Ka13):P:=h
theorem apd.Ka13(h:P:=by
 open aeS in exact al5):P:=h
theorem ape.Ka13(h:P:=by
 open ah7 in exact Xq):P:=h
theorem apf.Ka13(h:P:=by
 open Sa0 in exact Ya0):P:=h
theorem apg.Ka13(h:P:=by
 open Sa1 in exact Ya0):P:=h
theorem aph.Ka13(h:P:=by
 open Sa2 in exact Ya0):P:=h
theorem apj.Ka13(h:P:=by
 open Sa3 in exact Ya0):P:=h
theorem apk.Ka13(h:P:=by
 open Sa4 in exact Ya0):P:=h
theorem apl.Ka13(h:P:=by
 open Sa5 in exact Ya0):P:=h
theorem apm.Ka13(h:P:=by
 open Sa6 in exact Ya0):P:=h
theorem alP(h:P:=by
 go_enter Tryz.func39,Tryz.ntmps39
 go_upto_region 1 with fail;refine wp_at (fun W0 hW=>?_);obtain⟨e1,e2,e3,e4⟩:=eT w (.cells (fZ n (⟨a_k,(some ⟨gp,0,none⟩),dA,dJ,(some ⟨gr,0,none⟩),aI,bf,aM,aJ,aQ⟩:bE)) 30) (.cells #[.int .i64 K,.int .i64 no,.string k,.int .i64 nn,.int .i64 mK,.int .i64 mF,.int .i64 mT,.int .i64 mI,.int .i64 mL,.string mk,.int .i64 mN] 34) (.cells iO 30);open ajC in exact Qu):P:=h
theorem apn.Ka14(h:P:=by
 have hnl:=aA jC;have aqU:=aA JE;go_upto_region 13 with fail;refine wp_at (fun W4 Nv=>?_);have wN:Hid (W4.heap[w.heap.size]?=some (.cells #[.int .i64 n.id,.int .i64 n.par,.slice a_k n.kids.length aI,.int .i64 n.next,.slice (some ⟨gp,0,none⟩) n.pu.length bf,.slice dA n.out.length aM,.slice dJ n.seen.length aJ,.int .i64 n.old,.slice (some ⟨gr,0,none⟩) n.reqs.length aQ] 30 (0,0))):=by rw [Nv];exact jC
 have aaz:Hid (W4.heap[W1.heap.size]?=some (.cells #[.int .i64 no,.string k,.int .i64 nn,.int .i64 1] 97 (0,0))):=by rw [Nv];exact JE
 have UJ:Hid (W4.heap[w.heap.size+1]?=some (.cells #[.int .i64 K,.int .i64 no,.string k,.int .i64 nn,.int .i64 mK,.int .i64 mF,.int .i64 mT,.int .i64 mI,.int .i64 mL,.string mk,.int .i64 mN] 34 (0,0))):=by rw [Nv];exact DU
 have F6:Hid (W4.heap[w.heap.size+2]?=some (.cells iO 30 (0,0))):=by rw [Nv];exact jD
 have nK:Hid (Below w.heap.size w W4):=by rw [Nv];exact HB3
 open ahV in exact Xm):P:=h
theorem apo.Ka14(h:P:=by
 have hnl:=aA jC;have aqU:=aA JE;go_upto_region 13 with fail;refine wp_at (fun W4 Nv=>?_);have hne1:w.heap.size≠W1.heap.size:=by omega
 have wN:Hid (W4.heap[w.heap.size]?=some (.cells #[.int .i64 n.id,.int .i64 n.par,.slice a_k n.kids.length aI,.int .i64 n.next,.slice av RL.length cv,.slice dA n.out.length aM,.slice dJ n.seen.length aJ,.int .i64 n.old,.slice (some ⟨gr,0,none⟩) n.reqs.length aQ] 30 (0,0))):=by rw [Nv];exact fI _ hne1 (bg jC 4 _)
 have aaz:Hid (W4.heap[W1.heap.size]?=some (.cells #[.int .i64 no,.string k,.int .i64 nn,.int .i64 0] 97 (0,0))):=by rw [Nv];exact bg (fI _ hne1.symm JE) 3 _
 have UJ:Hid (W4.heap[w.heap.size+1]?=some (.cells #[.int .i64 K,.int .i64 no,.string k,.int .i64 nn,.int .i64 mK,.int .i64 mF,.int .i64 mT,.int .i64 mI,.int .i64 mL,.string mk,.int .i64 mN] 34 (0,0))):=by rw [Nv];exact fI _ (by omega) (fI _ (by omega) DU)
 have F6:Hid (W4.heap[w.heap.size+2]?=some (.cells iO 30 (0,0))):=by rw [Nv];exact fI _ (by omega) (fI _ (by omega) jD)
 have nK:Hid (Below w.heap.size w W4):=by rw [Nv];exact(HB3.setCell (p:=⟨w.heap.size,4,none⟩) (Nat.le_refl _) _).setCell (p:=⟨W1.heap.size,3,none⟩) (by simp;omega) _
 have MZ:Hid (LO 143 eG 4 (w.heap.size+3) W4 av cv RL):=by
  rw [Nv];have hk:aC [w.heap.size,W1.heap.size] W3 ((W3.setCell ⟨w.heap.size,4,none⟩ (.slice av RL.length cv)).setCell ⟨W1.heap.size,3,none⟩ (.int .i64 0)):=((aC.set _).mono (by simp)).trans ((aC.set _).mono (by simp));exact(HRW.keeps hk (fun x hx=>by simp at hx;omega)).lower (by omega)
 open ahU in exact Xm):P:=h
theorem DX(h:P:=by
 open agZ in exact Vh):P:=h
theorem apq.Ka15(h:P:=by
 clear h he hR hz hk hpar;open ajv in exact LX):P:=h
theorem apr.Ka15(h:P:=by
 clear h hR hpar;obtain⟨c0,c1,c2,c3,c4,c5,c6,c7,c8,c9⟩:=gY HW1.blk;have hwl:=aA HW.blk;have hne:wb≠w.heap.size:=by omega
 go_enter Tryz.func107,Tryz.ntmps107
 go_upto_region 1 with fail;have y1:=cell_regrown c1;clear c0 c1 c2 c3 c4 c5 c6 c7 c8 c9;open aiU in exact XG):P:=h
theorem aps.Ka15(h:P:=by
 have hq2:(n.par == -1)=false:=by simpa using hpar
 clear h hR hpar;open aju in exact LX):P:=h
theorem apt.Ka15(h:P:=by
 have hq2:(n.par == -1)=false:=by simpa using hpar
 clear h hR hpar;generalize dV n n.par k nn=gv at *;obtain⟨gn,gl,gb⟩:=gv;dsimp only at za ⊢;open ajt in exact LX):P:=h
theorem apu.Ka15(h:P:=by
 open ae0 in exact Vf):P:=h
theorem apv.Ka15(h:P:=by
 open aeZ in exact Vf):P:=h
theorem apw.Ka15(h:P:=by
 open aeY in exact Vf):P:=h
theorem apx.Ka15(h:P:=by
 open ajs in exact LX):P:=h
theorem apy.Ka15(h:P:=by
 open aeX in exact Vf):P:=h
theorem aaF(h:P:=by
 open ae9 in exact Nj):P:=h
theorem apz.Ka16(h:P:=by
 go_wp2_with fail;exact bodyPost_ret (v:= .tuple #[rH ⟨0,F,T,0,0,k,N⟩,.bool true]) (by simp[results,Tryz.results65,go_sem,rH]) rfl ⟨by rw [ah HP],jX⟩):P:=h
theorem apA.Ka16(h:P:=by
 go_wp2_with fail;exact bodyPost_ret (v:= .tuple #[rH ⟨0,F,T,0,L,k,N⟩,.bool false]) (by simp[results,Tryz.results65,go_sem,rH]) rfl ⟨by rw [ah HP],jX⟩):P:=h
theorem apB.Ka16(h:P:=by
 exact anp):P:=h
theorem alQ(h:P:=by
 have Xb:=hide (fun W (ha:aH W (some ⟨gp,0,none⟩) n.pu)=>Je gp 0 bf n.pu n.reqs[i].k n.reqs[i].n W (Nat.le_trans hz.p (by omega)) qd hz.pk (hz.rk _ (List.getElem_mem hi)) ha);unfold gM at Xb;rw [hu] at Xb;clear hR hst hz qd hu;have hp:=gQ hok;have FZ:=hide (fun W1 (ha:iA W1 fq n.reqs)=>vZ n (⟨a_k,(some ⟨gp,0,none⟩),dA,dJ,fq,aI,bf,aM,aJ,aQ⟩:bE) no W1 (by omega) hp.1 ha);rw [hJ] at FZ;clear hp hok;unfold gG;have H9:=hide h9;clear h9;have hbw0:=au w (.cells (fZ n (⟨a_k,(some ⟨gp,0,none⟩),dA,dJ,fq,aI,bf,aM,aJ,aQ⟩:bE)) 30);open aiF in exact LV):P:=h
theorem apC.Ka17(h:P:=by
 open adt in exact alV):P:=h
theorem apD.Ka17(h:P:=by
 open ads in exact alV):P:=h
theorem Nh(h:P:=by
 go_upto_region 1 with fail;have y7:=cell_regrown c7;have z1:=cell_regrown p1;clear c0 c1 c2 c3 c4 c5 c6 c7 c8 c9 p0 p1 p2 p3 p4 p5 p6 p7 p8 p9 lT;refine fK (by kernel_rfl) ?_;show iX _ _ _ _ 8 (Array.replicate 8 false) _ _
 refine tk [0,1,2,3,4,5,6,7] ?_;iterate 8 (refine Pq (fun K hK=>?_);go_simp;refine hK _ ?_;clear hK K)
 refine jI ?_;refine iC (by kernel_rfl) (fun z hz=>?_);have HZ:=hide (HW1.step hz);have JD:=hide (aj uL hz);clear hz y7 z1 HW1 uL;go_simp;exact Ka18):P:=h
theorem apE.Ka18(h:P:=by
 clear h hc;open agr in exact ams):P:=h
theorem apF.Ka18(h:P:=by
 open agO in exact amx):P:=h
theorem apG.Ka18(h:P:=by
 open agN in exact amx):P:=h
theorem apH.Ka18(h:P:=by
 clear h hc;open ajY in exact Yd):P:=h
theorem apI.Ka18(h:P:=by
 clear h hc he hz;open agq in exact ams):P:=h
theorem apJ.Ka18(h:P:=by
 clear h hc;go_wp2_with fail;go_ret;exact⟨rfl,A,G,c,HZ⟩):P:=h
theorem alR(h:P:=by
 obtain⟨⟨p0,p1,p2,p3,p4,p5,p6,p7,p8,p9,lT⟩,_⟩:=dP MX;have hol:=aA MX;obtain⟨c0,c1,c2,c3,c4,c5,c6,c7,c8⟩:=nine jg;obtain⟨d0,d1,d2,d3,d4,d5,d6,d7,d8⟩:=nine mD;have f0:=ay mD 0;have f1:=ay mD 1;have f2:=ay mD 2;have f3:=ay mD 3;have f4:=ay mD 4;have f5:=ay mD 5;have f6:=ay mD 6;have f7:=ay mD 7;have f8:=ay mD 8;have hnl:=aA jg;have hrl:=aA mD;clear q0;dsimp only at e0;subst e0;go_wp2_with fail;go_quiet (fail);go_wp2_with fail;refine aO (fun W' hW'=>?_)
 have e4:W'.heap[w.heap.size+2]?=some (.cells #[.int .i64 n.id,.int .i64 n.par,.slice a_k n.kids.length aI,.int .i64 n.next,.slice iy n.pu.length bf,.slice dA n.out.length aM,.slice dJ n.seen.length aJ,.int .i64 n.old,.slice (some ⟨g,off,none⟩) n.reqs.length aQ] 30 (0,0)):=by
  rw [hW'];exact GR.setW_blk [.int .i64 n.id,.int .i64 n.par,.slice a_k n.kids.length aI,.int .i64 n.next,.slice iy n.pu.length bf,.slice dA n.out.length aM,.slice dJ n.seen.length aJ,.int .i64 n.old,.slice (some ⟨g,off,none⟩) n.reqs.length aQ] (o:=0) (xs:=[.int .i64 0,.int .i64 0,.slice none 0 0,.int .i64 0,.slice none 0 0,.slice none 0 0,.slice none 0 0,.int .i64 0,.slice none 0 0]) mD
 have eU:aC [w.heap.size+2] W1 W':=by
  rw [hW'];exact aC.trans (b:=W1.drewN nq) ⟨rfl,rfl,rfl,Nat.le_refl _,fun _ _ _=>rfl⟩ (aL [.int .i64 n.id,.int .i64 n.par,.slice a_k n.kids.length aI,.int .i64 n.next,.slice iy n.pu.length bf,.slice dA n.out.length aM,.slice dJ n.seen.length aJ,.int .i64 n.old,.slice (some ⟨g,off,none⟩) n.reqs.length aQ] (W1.drewN nq) 0)
 have HAT:=hide (fun W'' (ho:Out c w W' W'')=>(sW.kc (k:=9) ((KC.keeps eU (fun x hx=>by have:x=w.heap.size+2:=(by simpa using hx);rw [this];exact aT (by omega))).trans (KC.out H9 ho)) (by omega)).rm);have jW:Hid (Below B w W'):=(HB1.mono hB).trans (eU.below (fun x hx=>by have:x=w.heap.size+2:=(by simpa using hx);omega) (Nat.le_trans hB (HB1.mono hB).size));have oJ:=hide (Apart.keeps (c:=c) (Apart.of_below (HB1)) (HB1.mono hB).size eU (fun x hx=>by have:x=w.heap.size+2:=(by simpa using hx);omega));obtain⟨x0,x1,x2,x3,x4,x5,x6,x7,x8⟩:=nine e4;clear hW' e4 eU;exact Ka19):P:=h
theorem apK.Ka19(h:P:=by
 exact bodyPost_ret (v:= .tuple #[.agg #[.int .i64 n.id,.int .i64 n.par,.slice a_k n.kids.length aI,.int .i64 n.next,.slice iy n.pu.length bf,.slice dA n.out.length aM,.slice dJ n.seen.length aJ,.int .i64 n.old,.slice (some ⟨g,off,none⟩) n.reqs.length aQ],.int .i64 0]) (by simp[results,Tryz.results39,go_sem,x0,x1,x2,x3,x4,x5,x6,x7,x8]) rfl ⟨(⟨a_k,iy,dA,dJ,(some ⟨g,off,none⟩),aI,bf,aM,aJ,aQ⟩:bE),rfl,HAT,jW,oJ⟩):P:=h
theorem apL.Ka19(h:P:=by
 exact bodyPost_ret (v:= .tuple #[.agg #[.int .i64 n.id,.int .i64 n.par,.slice a_k n.kids.length aI,.int .i64 n.next,.slice iy n.pu.length bf,.slice dA n.out.length aM,.slice dJ n.seen.length aJ,.int .i64 n.old,.slice (some ⟨g,off,none⟩) n.reqs.length aQ],.int .i64 1]) (by simp[results,Tryz.results39,go_sem,x0,x1,x2,x3,x4,x5,x6,x7,x8]) rfl ⟨(⟨a_k,iy,dA,dJ,(some ⟨g,off,none⟩),aI,bf,aM,aJ,aQ⟩:bE),rfl,HAT,jW,oJ⟩):P:=h
theorem alS(h:P:=by
 open ahJ in exact Qq):P:=h
theorem apM.Ka20(h:P:=by
 have JD:=hide (aj JC hz);clear hz y0 y1 y2 y3 y4 y5 y6 y7 y8 z1 Ph;go_simp;obtain⟨⟨p0,p1,p2,p3,p4,p5,p6⟩,_⟩:=gT JD;have hBz:=aA JD;go_wp2_with fail;refine(za z HZ).mono ?_;rintro e y ⟨rfl,A',G',c',v',hY⟩;have HY:=hide hY;clear hY za p0 p1 p2 p3 p4 p5 p6;go_wp2_with fail;go_ret;exact⟨rfl,A',G',c',v',HY⟩):P:=h
theorem apN.Ka20(h:P:=by
 clear hz y0 y1 y2 y3 y4 y5 y6 y7 y8 z1 Ph;exact Zx):P:=h
theorem QF(h:P:=by
 go_upto_region 6 with fail;refine Fo.wp_at (fun V hV=>?_);open ajp in exact XY):P:=h
theorem apO.Ka21(h:P:=by
 open ahG in exact Xk):P:=h
theorem apP.Ka21(h:P:=by
 open ahF in exact Xk):P:=h
theorem apQ.Ka21(h:P:=by
 open alH in exact YV):P:=h
theorem apR.Ka21(h:P:=by
 clear hblk hV c0 c1 c2 c3;open akV in exact Yx):P:=h
theorem apS.Ka21(h:P:=by
 clear hblk hV c0 c1 c2 c3;open akS in exact Yw):P:=h
theorem alT(h:P:=by
 have hml:=aA uJ;have qB:=hide (aj iI (au W2 (.cells #[] 32)));have O7:=hide (MQ.kc (k:=9) (KC.of_below (au W2 (.cells #[] 32))) (by omega));have qA:=hide (HB2.trans ((au W2 (.cells #[] 32)).mono HB2.size));obtain⟨c0,c1,c2,c3,c4,c5,c6,c7,c8⟩:=nine iQ;open adJ in exact Ni):P:=h
theorem apT.Ka22(h:P:=by
 exact bodyPost_ret (v:= .tuple #[.agg #[.int .i64 n.id,.int .i64 n.par,.slice A.k n.kids.length A.ck,.int .i64 n.next,.slice A.p n.pu.length A.cp,.slice A.o n.out.length A.co,.slice A.s n.seen.length A.cs,.int .i64 n.old,.slice A.r n.reqs.length A.cr],.slice (some ⟨W2.heap.size,0,none⟩) 0 0,.int .i64 3]) (by simp[results,Tryz.results41,go_sem,x0,x1,x2,x3,x4,x5,x6,x7,x8]) rfl ⟨A,some ⟨W2.heap.size,0,none⟩,0,rfl,HAT,fun W'' _ i hi=>by simp at hi,jW,oJ⟩):P:=h
theorem acR.Ka22(h:P:=by
 exact bodyPost_ret (v:= .tuple #[.agg #[.int .i64 n.id,.int .i64 n.par,.slice A.k n.kids.length A.ck,.int .i64 n.next,.slice A.p n.pu.length A.cp,.slice A.o n.out.length A.co,.slice A.s n.seen.length A.cs,.int .i64 n.old,.slice A.r n.reqs.length A.cr],.slice (some ⟨W2.heap.size,0,none⟩) 0 0,.int .i64 1]) (by simp[results,Tryz.results41,go_sem,x0,x1,x2,x3,x4,x5,x6,x7,x8]) rfl ⟨A,some ⟨W2.heap.size,0,none⟩,0,rfl,HAT,fun W'' _ i hi=>by simp at hi,jW,oJ⟩):P:=h
theorem JJ(h:P:=by
 clear e5 hkx hX d0 d1 d2 d3 d4 d5 d6 d7 d8 f0 f1 f2 f3 f4 f5 f6 f7 f8 p0 p1 p2 p3 p4 p5 p6 p7 p8 p9 lT hnl hol jC DU jD HB3 jY jJ;obtain⟨c0,c1,c2,c3,c4,c5,c6,c7,c8⟩:=nine fF;obtain⟨⟨p0,p1,p2,p3,p4,p5,p6,p7,p8,p9,lT⟩,_⟩:=dP HOX;have hnl:=aA fF;have hol:=aA HOX;exact Ka23):P:=h
theorem acS.Ka23(h:P:=by
 go_wp2_with fail;refine(iN X A1 G1 c (Nat.zero_le _) H9 HPR wM).mono ?_;rintro e W5 ⟨A2,rfl,hat,hb5,hap⟩;open ajl in exact XV):P:=h
theorem acT.Ka23(h:P:=by
 open af5 in exact amo):P:=h
theorem acU.Ka23(h:P:=by
 go_wp2_with fail;refine(iN X A1 G1 c (Nat.zero_le _) H9 HPR wM).mono ?_;rintro e W5 ⟨A2,ma,mc,rfl,hat,hmt,hb5,hap⟩;have Ut:=hide hmt;clear hmt;open ajk in exact XV):P:=h
theorem acV.Ka23(h:P:=by
 go_upto_region 23 with fail;clear p0 p1 p2 p3 p4 p5 p6 p7 p8 p9 lT hol;open aeM in exact QG):P:=h
theorem acW.Ka23(h:P:=by
 go_upto_region 26 with fail;have hrx:=aA oH;have y0:=fO (b:=w.heap.size+2) (by omega) c0;have y1:=fO (b:=w.heap.size+2) (by omega) c1;have y2:=fO (b:=w.heap.size+2) (by omega) c2;have y3:=fO (b:=w.heap.size+2) (by omega) c3;have y4:=fO (b:=w.heap.size+2) (by omega) c4;have y5:=fO (b:=w.heap.size+2) (by omega) c5;have y6:=fO (b:=w.heap.size+2) (by omega) c6;have y7:=fO (b:=w.heap.size+2) (by omega) c7;have y8:=fO (b:=w.heap.size+2) (by omega) c8;have z2:=fO (b:=w.heap.size+2) (by omega) p2;have z3:=fO (b:=w.heap.size+2) (by omega) p3;have hwb:w.heap.size+2≤X.heap.size:=by omega
 clear c0 c1 c2 c3 c4 c5 c6 c7 c8 p0 p1 p2 p3 p4 p5 p6 p7 p8 p9 lT;refine mU 12 (w.heap.size+2) (by kernel_rfl) ?_;show iw _ _ _ _ _ _ 14 (Array.replicate 14 false) _ _
 refine tk [0,1,2,3,4,5,6,7,8,9] ?_;iterate 10 (refine tkB hwb (fun K hK=>?_);go_simp;first|refine hK _ ?_|(apply Exists.intro;refine⟨fun _=>?_,hK _ ?_⟩;rfl);clear hK K)
 refine jI ?_;clear y0 y1 y2 y3 y4 y5 y6 y7 y8 z2 z3 hwb hnl hol fF HOX;refine jB 10 11 rfl rfl (by kernel_rfl) (by rfl) (by rfl) (by decide) (by decide) (fun x hx=>?_) (fun x hx=>?_)
 ·go_simp;refine⟨(au x _).mono (by have:=hx.size;omega),?_⟩;have yA:=hide (Ge.trans hx (au x (.cells #[.int .i64 0,.int .i64 n.id,.int .i64 n.par,.int .i64 0,.int .i64 0,.string k,.int .i64 nn] 32)));have HM1:=hide (heap_alloc_new x (.cells #[.int .i64 0,.int .i64 n.id,.int .i64 n.par,.int .i64 0,.int .i64 0,.string k,.int .i64 nn] 32));have hxs:=hx.size;clear hx;refine gL 11 rfl (by kernel_rfl) (by rfl) (by decide) (fun y hy=>?_);have HY:=hide (Ge.trans yA hy);have HMY:=hide (aj HM1 hy);have FC:=hide (aj oH HY);clear hy HM1 yA;open ain in exact Xx
 ·have FC:=hide (aj oH hx);have hxs:=hx.size;open ail in exact Xx):P:=h
theorem acX.Ka23(h:P:=by
 go_upto_region 19 with fail;open ac7 in exact DY):P:=h
theorem acY.Ka23(h:P:=by
 open af4 in exact amo):P:=h
theorem aaG(h:P:=by
 obtain⟨rfl,hge⟩:=hcut;have jg:=hide (aj UE hge);have FQ:=hide (aj Uv hge);have mD:=hide (aj acJ hge);have HB1:=hide (HB0.trans (hge.mono HB0.size));have MW:=hide (Uz.kc (k:=9) (KC.of_below hge) (by omega));have aaD:=hide (Xd.below hge);have hz1:w.heap.size+3≤wc.heap.size:=by have:=aA mD;omega
 obtain⟨t0,t1,t2⟩:=ah HT;have u0:=(hge.cell (p:=⟨G.s,i*3,none⟩) hgs0).trans t0;have u1:=(hge.cell (p:=⟨G.s,i*3+1,none⟩) hgs0).trans t1;have u2:=(hge.cell (p:=⟨G.s,i*3+2,none⟩) hgs0).trans t2;clear t0 t1 t2 hge c0 c1 c2 c3 c4 c5 c6 c7 c8 m0 m1 m2 m3 m4 m5 m6 hnl hml UE Uv acJ HB0 Uz Xd HT;obtain⟨c0,c1,c2,c3,c4,c5,c6,c7,c8⟩:=nine jg;have hnl:=aA jg;have arQ:(i:Int) < (n.seen.length:Int):=by omega
 go_upto_region 5 with fail;refine wp_at (fun W2 hW2=>?_);have hb2:=au wc (.cells #[.int .i64 mF,.int .i64 s0.l,.slice bi s0.ids.length ci] 90);have hs2:=heap_alloc_new wc (.cells #[.int .i64 mF,.int .i64 s0.l,.slice bi s0.ids.length ci] 90);rw [←hW2] at hb2 hs2;obtain⟨sb,hsb⟩:∃sb,wc.heap.size=sb:=⟨_,rfl⟩;rw [hsb] at hs2 hz1;have M9:=hide hs2;have iQ:=hide (aj jg hb2);have uJ:=hide (aj FQ hb2);have iI:=hide (aj mD hb2);have HB2:=hide (HB1.trans (hb2.mono HB1.size));have acC:=hide (MW.kc (k:=9) (KC.of_below hb2) (by omega));have acO:=hide (aaD.below hb2);have hilt:∀x∈fp (G.i i) s0.ids,x < sb:=fun x hx=>by rw [←hsb];exact alM aaD x hx
 rw [hsb] at *;clear hW2 hb2 hs2 u0 u1 u2 c0 c1 c2 c3 c4 c5 c6 c7 c8 hnl jg FQ mD HB1 MW aaD;obtain⟨m0,m1,m2,m3,m4,m5,m6⟩:=iq uJ;obtain⟨s00,s01,s02⟩:=xI M9;have sf:=ay M9 1;have hml:=aA uJ;have hsl2:=aA M9;go_upto_if 35 with fail;exact Ka24):P:=h
theorem acZ.Ka24(h:P:=by
 go_cut [8] from 15 (fun p wx=>p= .pointer (some ⟨sb,0,none⟩)∧wx.heap[sb]?=some (.cells #[.int .i64 mF,.int .i64 (dU s0 mL),.slice bi s0.ids.length ci] 90 (0,0))∧aC [sb] W2 wx)
 case first=>
  exact aaY
 case rest=>
  open adU in exact aaI):P:=h
theorem ac0.Ka24(h:P:=by
 go_cut [8] from 15 (fun p wx=>p= .pointer (some ⟨sb,0,none⟩)∧wx.heap[sb]?=some (.cells #[.int .i64 mF,.int .i64 (dU s0 mL),.slice bi s0.ids.length ci] 90 (0,0))∧aC [sb] W2 wx)
 case first=>
  exact aaY
 case rest=>
  open adT in exact aaI):P:=h
theorem ac1.Ka24(h:P:=by
 go_cut [8] from 15 (fun p wx=>p= .pointer (some ⟨sb,0,none⟩)∧wx.heap[sb]?=some (.cells #[.int .i64 mF,.int .i64 (dU s0 mL),.slice bi s0.ids.length ci] 90 (0,0))∧aC [sb] W2 wx)
 case first=>
  exact aaY
 case rest=>
  open adS in exact aaI):P:=h
theorem alU(h:P:=by
 clear He;refine gL 0 rfl (by kernel_rfl) (by rfl) (by decide) (fun x2 hx2=>?_);go_simp;have qC:=hide (uI.trans (hx2.mono uI.size));have qH:wc.heap.size≤x2.heap.size:=qC.size;have aaA:=hide (aj UN hx2);clear hx2;refine⟨(au x2 _).mono qH,?_⟩;have Bf:=au x2 (.cells #[] 97);have Ba:=hide (show(x2.alloc (.cells #[] 97)).ownsRow wc.heap.size 97 4 (.slice (some ⟨x2.heap.size,0,none⟩) 0 0) 0 (GR.flat aK []) from World.ownsRow_lit (base:=wc.heap.size) (e:=97) (size:=4) x2 #[] 0 qH (by unfold maxLen;omega) (by simp));open ai2 in exact XK):P:=h
theorem ac3.Ka25(h:P:=by
 have AX:=hide (show y3.heap[x1.heap.size]?=some (.cells #[.int .i64 no,.string k,.int .i64 nn,.int .i64 0] 97 (0,0)) from by rw [tK.block _ (aA (ah tq)) (fun hm=>ah DK _ hm.symm rfl)];exact tq);open ajT in exact Qw):P:=h
theorem ac4.Ka25(h:P:=by
 have AX:=hide (show y3.heap[x1.heap.size]?=some (.cells #[.int .i64 no,.string k,.int .i64 nn,.int .i64 1] 97 (0,0)) from by rw [tK.block _ (aA (ah tq)) (fun hm=>ah DK _ hm.symm rfl)];exact tq);open ajS in exact Qw):P:=h
theorem DY(h:P:=by
 have y0:=cell_regrown c0;have y1:=cell_regrown c1;have y2:=cell_regrown c2;have y3:=cell_regrown c3;have y4:=cell_regrown c4;have y5:=cell_regrown c5;have y6:=cell_regrown c6;have y7:=cell_regrown c7;have y8:=cell_regrown c8;exact Ka26):P:=h
theorem ac5.Ka26(h:P:=by
 have x0:=cell_regrown d0;have x1:=cell_regrown d1;have x2:=cell_regrown d2;have x3:=cell_regrown d3;clear c0 c1 c2 c3 c4 c5 c6 c7 c8 c9 d0 d1 d2 d3 HR3;refine bn 7 (by kernel_rfl) ?_;show dS _ _ _ _ _ 8 (Array.replicate 8 false) _ _
 refine tk [0,1,2,3,4,5] ?_;iterate 6 (refine nQ (fun K hK=>?_);go_simp;refine hK _ ?_;clear hK K)
 refine jI ?_;refine rz 6 20 rfl (by kernel_rfl) (by kernel_rfl) (by kernel_rfl) (by kernel_rfl) (by kernel_rfl) (fun _ _ _ _ h=>h) (fun K hK=>?_);go_simp
 first
  |(refine hK _ ?_;clear hK K)
  |(apply Exists.intro
    refine⟨fun _=>?_,hK _ ?_⟩
    (exact aoo _)
    clear hK K)
 clear y0 y1 y2 y3 y4 y5 y6 y7 y8 x0 x1 x2 x3;refine aV (by kernel_rfl) (fun x hx=>?_);have CR:=hide (TY x cc vv k hk ⟨qK,qF,qT,qI,qL,qk,qN⟩ HKk (Xa.step hx));clear hx Xa;refine aG 7 rfl (by kernel_rfl) (by rfl) ?_;go_simp;refine CR.mono ?_;rintro e y ⟨rfl,c',v',hY⟩;have HY:=hide hY;clear hY CR;refine wpAny_done (by kernel_rfl) ?_;go_simp;go_wp2_with fail;go_roundw
 case rel=>exact⟨k+1,c',v',by omega,by go_num,by rw [ah HT];exact HY⟩
 case measure=>simp[intOf];omega):P:=h
theorem ac6.Ka26(h:P:=by
 have z1:=cell_regrown p1;have z2:=cell_regrown p2;clear c0 c1 c2 c3 c4 c5 c6 c7 c8 c9 p0 p1 p2 p3 p4 p5 p6 uL HW1;by_cases hT:mT=n.id
 ·have hq:(mT == n.id)=true:=by simpa using hT
  have HD:=hide (show(decide (mT=n.id)&&nb)=nb by rw [decide_eq_true hT];rfl);exact amR
 ·have hq:(mT == n.id)=false:=by simpa using hT
  have HD:=hide (show(decide (mT=n.id)&&nb)=false by rw [decide_eq_false hT];rfl);exact amR):P:=h
theorem ac7.Ka26(h:P:=by
 clear c0 c1 c2 c3 c4 c5 c6 c7 c8;refine bn 3 (by kernel_rfl) ?_;show dS _ _ _ _ _ 6 (Array.replicate 6 false) _ _
 refine tk [0,1] ?_;iterate 2 (refine nQ (fun K hK=>?_);go_simp;refine hK _ ?_;clear hK K)
 refine jI ?_;clear y0 y1 y2 y3 y4 y5 y6 y7 y8;refine cZ 2 rfl (by kernel_rfl) (by rfl) (fun x hx=>?_);go_simp;refine(iN x A1 (wM.at.below hx)).mono ?_;rintro e y ⟨ma,mc,rfl,g,hmw,hml,hby⟩;refine⟨hby,?_⟩;have HY:=hide (Ge.trans hx hby);have hxs:=hx.size;clear hx hby iN fF HOX p0 p1 p2 p3 p4 p5 p6 p7 p8 p9 lT hnl hol;refine aV (by kernel_rfl) (fun z hz=>?_);have HZ:=hide (Ge.trans HY hz);have F5:=hide (aj oH HZ);have rR:=hide (jy.trans (HZ.mono jy.size));have AU:=hide (wM.kc (k:=9) (KC.of_below HZ) (by omega));have Nz:∀x'∈fp g L1,(fun q=>if q≤w.heap.size+2 then 9 else 0) x'=0:=fun x' hx'=>if_neg (by have:=(hml x' hx').1;have:=aA oH;omega)
 have HMW:=hide ((KC.of_below (c:=fun q=>if q≤w.heap.size+2 then 9 else 0) (k:=9) hz).w hmw Nz (by omega));have acp:=hide Nz;clear hz Nz hmw hml HY HZ wM jy oH;obtain⟨d0,d1,d2,d3,d4,d5,d6,d7,d8⟩:=nine F5;have f0:=ay F5 0;have f1:=ay F5 1;have f2:=ay F5 2;have f3:=ay F5 3;have f4:=ay F5 4;have f5:=ay F5 5;have f6:=ay F5 6;have f7:=ay F5 7;have f8:=ay F5 8;have hrl:=aA F5;refine aG 3 rfl (by kernel_rfl) (by rfl) ?_;go_simp;refine aG 4 rfl (by kernel_rfl) (by rfl) ?_;go_simp;refine aG 5 rfl (by kernel_rfl) (by rfl) ?_;go_simp;refine wpAny_done (by kernel_rfl) ?_;go_simp;clear d0 d1 d2 d3 d4 d5 d6 d7 d8 f0 f1 f2 f3 f4 f5 f6 f7 f8 hrl;go_wp2_with fail;refine aO (fun W' hW'=>?_)
 have e4:W'.heap[w.heap.size+2]?=some (.cells #[.int .i64 n.id,.int .i64 n.par,.slice A1.k n.kids.length A1.ck,.int .i64 n.next,.slice A1.p n.pu.length A1.cp,.slice A1.o n.out.length A1.co,.slice A1.s n.seen.length A1.cs,.int .i64 n.old,.slice A1.r n.reqs.length A1.cr] 30 (0,0)):=by
  rw [hW'];exact GR.setW_blk [.int .i64 n.id,.int .i64 n.par,.slice A1.k n.kids.length A1.ck,.int .i64 n.next,.slice A1.p n.pu.length A1.cp,.slice A1.o n.out.length A1.co,.slice A1.s n.seen.length A1.cs,.int .i64 n.old,.slice A1.r n.reqs.length A1.cr] (o:=0) (xs:=[.int .i64 0,.int .i64 0,.slice none 0 0,.int .i64 0,.slice none 0 0,.slice none 0 0,.slice none 0 0,.int .i64 0,.slice none 0 0]) F5
 have eU:aC [w.heap.size+2] z W':=by
  rw [hW'];exact aL [.int .i64 n.id,.int .i64 n.par,.slice A1.k n.kids.length A1.ck,.int .i64 n.next,.slice A1.p n.pu.length A1.cp,.slice A1.o n.out.length A1.co,.slice A1.s n.seen.length A1.cs,.int .i64 n.old,.slice A1.r n.reqs.length A1.cr] z 0
 have TU:=hide ((KC.keeps (c:=fun q=>if q≤w.heap.size+2 then 9 else 0) (k:=9) eU (fun x hx=>if_pos (by have:x=w.heap.size+2:=(by simpa using hx);omega))).w HMW acp (by omega));have HAT:=hide (fun W'' (ho:Dx w W' W'')=>((AU.kc (k:=9) (KC.keeps eU (fun x hx=>by have:x=w.heap.size+2:=(by simpa using hx);rw [this];exact uF)) (by omega)).kc (k:=9) (ho.kc (fun x hx=>PE x (by omega))) (by omega)).rm);have jW:Hid (Below w.heap.size w W'):=rR.trans (eU.below (fun x hx=>by have:x=w.heap.size+2:=(by simpa using hx);omega) rR.size);obtain⟨x0,x1,x2,x3,x4,x5,x6,x7,x8⟩:=nine e4;clear hW' e4 eU;exact bodyPost_ret (v:= .tuple #[.agg #[.int .i64 n.id,.int .i64 n.par,.slice A1.k n.kids.length A1.ck,.int .i64 n.next,.slice A1.p n.pu.length A1.cp,.slice A1.o n.out.length A1.co,.slice A1.s n.seen.length A1.cs,.int .i64 n.old,.slice A1.r n.reqs.length A1.cr],.slice ma L1.length mc,.int .i64 0]) (by simp[results,Tryz.results9,go_sem,x0,x1,x2,x3,x4,x5,x6,x7,x8]) rfl ⟨A1,ma,⟨mc,rfl⟩,HAT,fun W'' ho=>((ho.kc (c:=fun q=>if q≤w.heap.size+2 then 9 else 0) (k:=9) (fun x hx=>if_pos (by omega))).w TU acp (by omega)).at,jW⟩):P:=h
theorem ac8.Ka26(h:P:=by
 have z1:=cell_regrown p1;clear c0 c1 c2 c3 c4 c5 c6 c7 c8 c9 p0 p1 p2 p3 p4 p5 p6;refine fK (by kernel_rfl) ?_;show iX _ _ _ _ 8 (Array.replicate 8 false) _ _
 refine tk [0,1,2,3,4,5] ?_;iterate 6 (refine Pq (fun K hK=>?_);go_simp;refine hK _ ?_;clear hK K)
 refine jI ?_;refine uD 6 rfl (by kernel_rfl) (by kernel_rfl) (by kernel_rfl) (fun _ _ _ _ h=>h) (fun K hK=>?_);go_simp
 first
  |(refine hK _ ?_;clear hK K)
  |(apply Exists.intro
    refine⟨fun _=>?_,hK _ ?_⟩
    (exact HKD _ (Ph _))
    clear hK K)
 refine tk [7] ?_;(refine Pq (fun K hK=>?_);go_simp;refine hK _ ?_;clear hK K)
 refine jI ?_;refine iC (by kernel_rfl) (fun z hz=>?_);have HZ:=hide (HW1.step hz);exact Ka20):P:=h
theorem ac9.Ka26(h:P:=by
 have hnl:=aA jK;have hnr:=aA iJ;have hnq:=aA yx;clear c0 c1 c2 c3 c4 c5 c6 c7 c8;go_cut [5] from 11 (fun cd wx=>cd= .int .i64 0∧wx.heap[w.heap.size+2]?=some (.cells #[.int .i64 n.id,.int .i64 n.par,.slice a_k n.kids.length aI,.int .i64 n.next,.slice av RL.length cv,.slice dA n.out.length aM,.slice dJ n.seen.length aJ,.int .i64 n.old,.slice (some ⟨gv,0,none⟩) (n.reqs.length+1) vc] 30 (0,0))∧aC [w.heap.size+2] wc wx)
 case first=>
  open afI in exact Vg
 case rest=>
  open ako in exact Yk):P:=h
theorem ada.Ka26(h:P:=by
 have hnl:=aA sZ;have hnr:=aA jA;have hnq:=aA DV;clear c0 c1 c2 c3 c4 c5 c6 c7 c8;go_cut [5] from 11 (fun cd wx=>cd= .int .i64 0∧wx.heap[w.heap.size+2]?=some (.cells #[.int .i64 n.id,.int .i64 n.par,.slice a_k n.kids.length aI,.int .i64 n.next,.slice av RL.length cv,.slice dA n.out.length aM,.slice dJ n.seen.length aJ,.int .i64 IH.no,.slice (some ⟨g8,0,none⟩) n.reqs.length zn] 30 (0,0))∧aC [w.heap.size+2] W9 wx)
 case first=>
  open afH in exact Vg
 case rest=>
  open akq in exact Yl):P:=h
theorem adb.Ka26(h:P:=by
 have hnl:=aA jK;have hnr:=aA iJ;have hnq:=aA yx;clear c0 c1 c2 c3 c4 c5 c6 c7 c8;go_cut [5] from 11 (fun cd wx=>cd= .int .i64 1∧wx.heap[w.heap.size+2]?=some (.cells #[.int .i64 n.id,.int .i64 n.par,.slice a_k n.kids.length aI,.int .i64 n.next,.slice (some ⟨gp,0,none⟩) n.pu.length bf,.slice dA n.out.length aM,.slice dJ n.seen.length aJ,.int .i64 n.old,.slice (some ⟨gv,0,none⟩) (n.reqs.length+1) vc] 30 (0,0))∧aC [w.heap.size+2] wc wx)
 case first=>
  open afG in exact Vg
 case rest=>
  open akn in exact Yk):P:=h
theorem ade.Ka26(h:P:=by
 have hnl:=aA sZ;have hnr:=aA jA;have hnq:=aA DV;clear c0 c1 c2 c3 c4 c5 c6 c7 c8;go_cut [5] from 11 (fun cd wx=>cd= .int .i64 1∧wx.heap[w.heap.size+2]?=some (.cells #[.int .i64 n.id,.int .i64 n.par,.slice a_k n.kids.length aI,.int .i64 n.next,.slice (some ⟨gp,0,none⟩) n.pu.length bf,.slice dA n.out.length aM,.slice dJ n.seen.length aJ,.int .i64 IH.no,.slice (some ⟨g8,0,none⟩) n.reqs.length zn] 30 (0,0))∧aC [w.heap.size+2] W9 wx)
 case first=>
  open afF in exact Vg
 case rest=>
  open akp in exact Yl):P:=h
theorem adf.Ka26(h:P:=by
 have x0:=cell_regrown s0;have x1:=cell_regrown s1;have x2:=cell_regrown s2;have x3:=cell_regrown s3;have hnz:=aA FV;have hsz:=aA UZ;clear c0 c1 c2 c3 c4 c5 c6 c7 c8 s0 s1 s2 s3;refine rA 5 (by kernel_rfl) ?_;show iK _ _ _ _ _ 8 (Array.replicate 8 false) _ _
 refine tk [0,1,2] ?_;iterate 3 (refine tkF (fun K hK=>?_);go_simp;refine hK _ ?_;clear hK K)
 refine jI ?_;clear y0 y1 y2 y3 y4 y5 y6 y7 y8 x0 x1 x2 x3 hnz hsz FV UZ;refine KW 3 rfl (by kernel_rfl) (by rfl) (by decide) (fun x hx=>?_);go_simp;refine(za x hx).mono ?_;rintro e y ⟨rfl,hby⟩;refine⟨hby,?_⟩;have HY:=hide (Ge.trans hx hby);clear hx hby za;refine iB 4 rfl rfl (by kernel_rfl) (by rfl) (by rfl) (by decide) (fun z hz=>?_) (fun z hz=>?_)
 ·have HZ:=hide (Ge.trans HY hz);clear hz HY;go_simp;refine⟨au z _,?_⟩;refine wF (by kernel_rfl) (fun z2 hz2=>?_);have HZ2:=hide (Ge.trans HZ (Ge.trans (au z _) hz2));have HM2:=hide (aj (heap_alloc_new z (.cells #[.int .i64 qK,.int .i64 qF,.int .i64 qT,.int .i64 qI,.int .i64 qL,.string qk,.int .i64 qN] 32)) hz2);have tu:=hide (aj aaB HZ2);have hmz:w.heap.size+1 < z.heap.size:=Nat.lt_of_lt_of_le (aA aaB) HZ.size;clear hz2;open ah5 in exact Xp
 ·have HZ:=hide (Ge.trans HY hz);have tu:=hide (aj aaB HZ);clear hz HY;open ah4 in exact Xp):P:=h
theorem zf(h:P:=by
 rw [hop] at Lj;unfold jH at Lj;clear hop;open alq in exact YK):P:=h
theorem adg.Ka27(h:P:=by
 open afi in exact amb):P:=h
theorem adh.Ka27(h:P:=by
 obtain⟨e1,e2,e3,e4⟩:=eT w (.cells (fZ n A) 30) (.cells #[.int .i64 2,.int .i64 no,.string k,.int .i64 nn,.int .i64 mK,.int .i64 mF,.int .i64 mT,.int .i64 mI,.int .i64 mL,.string mk,.int .i64 mN] 34) (.cells iO 30);have hsz:(((w.alloc (.cells (fZ n A) 30)).alloc (.cells #[.int .i64 2,.int .i64 no,.string k,.int .i64 nn,.int .i64 mK,.int .i64 mF,.int .i64 mT,.int .i64 mI,.int .i64 mL,.string mk,.int .i64 mN] 34)).alloc (.cells iO 30)).heap.size=w.heap.size+3:=by simp
 generalize hW0:((w.alloc (.cells (fZ n A) 30)).alloc (.cells #[.int .i64 2,.int .i64 no,.string k,.int .i64 nn,.int .i64 mK,.int .i64 mF,.int .i64 mT,.int .i64 mI,.int .i64 mL,.string mk,.int .i64 mN] 34)).alloc (.cells iO 30)=W0 at *;exact Za4):P:=h
theorem adi.Ka27(h:P:=by
 obtain⟨e1,e2,e3,e4⟩:=eT w (.cells (fZ n A) 30) (.cells #[.int .i64 1,.int .i64 no,.string k,.int .i64 nn,.int .i64 mK,.int .i64 mF,.int .i64 mT,.int .i64 mI,.int .i64 mL,.string mk,.int .i64 mN] 34) (.cells iO 30);have hsz:(((w.alloc (.cells (fZ n A) 30)).alloc (.cells #[.int .i64 1,.int .i64 no,.string k,.int .i64 nn,.int .i64 mK,.int .i64 mF,.int .i64 mT,.int .i64 mI,.int .i64 mL,.string mk,.int .i64 mN] 34)).alloc (.cells iO 30)).heap.size=w.heap.size+3:=by simp
 generalize hW0:((w.alloc (.cells (fZ n A) 30)).alloc (.cells #[.int .i64 1,.int .i64 no,.string k,.int .i64 nn,.int .i64 mK,.int .i64 mF,.int .i64 mT,.int .i64 mI,.int .i64 mL,.string mk,.int .i64 mN] 34)).alloc (.cells iO 30)=W0 at *;exact Za4):P:=h
theorem adj.Ka27(h:P:=by
 open afk in exact amc):P:=h
theorem adk.Ka27(h:P:=by
 obtain⟨e1,e2,e3,e4⟩:=eT w (.cells (fZ n A) 30) (.cells #[.int .i64 6,.int .i64 no,.string k,.int .i64 nn,.int .i64 mK,.int .i64 mF,.int .i64 mT,.int .i64 mI,.int .i64 mL,.string mk,.int .i64 mN] 34) (.cells iO 30);have hsz:(((w.alloc (.cells (fZ n A) 30)).alloc (.cells #[.int .i64 6,.int .i64 no,.string k,.int .i64 nn,.int .i64 mK,.int .i64 mF,.int .i64 mT,.int .i64 mI,.int .i64 mL,.string mk,.int .i64 mN] 34)).alloc (.cells iO 30)).heap.size=w.heap.size+3:=by simp
 generalize hW0:((w.alloc (.cells (fZ n A) 30)).alloc (.cells #[.int .i64 6,.int .i64 no,.string k,.int .i64 nn,.int .i64 mK,.int .i64 mF,.int .i64 mT,.int .i64 mI,.int .i64 mL,.string mk,.int .i64 mN] 34)).alloc (.cells iO 30)=W0 at *;exact Za8):P:=h
theorem adl.Ka27(h:P:=by
 open afj in exact amc):P:=h
theorem adn.Ka27(h:P:=by
 open afm in exact amd):P:=h
theorem ado.Ka27(h:P:=by
 open afo in exact ame):P:=h
theorem adp.Ka27(h:P:=by
 obtain⟨e1,e2,e3,e4⟩:=eT w (.cells (fZ n A) 30) (.cells #[.int .i64 5,.int .i64 no,.string k,.int .i64 nn,.int .i64 mK,.int .i64 mF,.int .i64 mT,.int .i64 mI,.int .i64 mL,.string mk,.int .i64 mN] 34) (.cells iO 30);have hsz:(((w.alloc (.cells (fZ n A) 30)).alloc (.cells #[.int .i64 5,.int .i64 no,.string k,.int .i64 nn,.int .i64 mK,.int .i64 mF,.int .i64 mT,.int .i64 mI,.int .i64 mL,.string mk,.int .i64 mN] 34)).alloc (.cells iO 30)).heap.size=w.heap.size+3:=by simp
 generalize hW0:((w.alloc (.cells (fZ n A) 30)).alloc (.cells #[.int .i64 5,.int .i64 no,.string k,.int .i64 nn,.int .i64 mK,.int .i64 mF,.int .i64 mT,.int .i64 mI,.int .i64 mL,.string mk,.int .i64 mN] 34)).alloc (.cells iO 30)=W0 at *;open apg in exact DW):P:=h
theorem adq.Ka27(h:P:=by
 open afl in exact amd):P:=h
theorem adr.Ka27(h:P:=by
 open afn in exact ame):P:=h
theorem alV(h:P:=by
 generalize n.reqs[i].n=qn at *;go_upto_region 8 with fail;have y4:=cell_regrown c4;have y8:=cell_regrown c8;have z1:=cell_regrown q1;have z2:=cell_regrown q2;clear c0 c1 c2 c3 c4 c5 c6 c7 c8 d0 d1 d2 d3 d4 d5 d6 d7 d8 f0 f1 f2 f3 f4 f5 f6 f7 f8 q0 q1 q2 q3;refine fK (by kernel_rfl) ?_;show iX _ _ _ _ 20 (Array.replicate 20 false) _ _
 refine tk [0,1,2,3,4,5,6,7,8,9,10,11,12,13] ?_;iterate 14 (refine Pq (fun K hK=>?_);go_simp;refine hK _ ?_;clear hK K)
 refine jI ?_;clear y4 y8 z1 z2;refine O3 14 rfl (by kernel_rfl) (by rfl) (fun x hx=>?_);go_simp;refine(Xb x (GR.At.below sW.at.p hx)).mono ?_;rintro e y ⟨v,rfl,hne,hrow,hby⟩;refine⟨hby,?_⟩;obtain⟨av,cv,rfl,_⟩:=GR.own_at (enc:=eG) (sz:=4) aZ hrow;have HRW:=hide hrow;have HXY:=hide (Ge.trans hx hby);have hxs:=hx.size;clear hx hby hne hrow Xb;refine tk [15,16,17,18,19] ?_;iterate 5 (refine Pq (fun K hK=>?_);go_simp;refine hK _ ?_;clear hK K)
 refine jI ?_;refine iC (by kernel_rfl) (fun z hz=>?_);have HZ:=hide (Ge.trans HXY hz);have F5:=hide (GR.own_below HRW hz);have FV:=hide (aj jg HZ);have wO:=hide (aj oH HZ);have AU:=hide (sW.kc (k:=9) (KC.of_below HZ) (by omega));have rR:=hide (HB1.trans (HZ.mono HB1.size));have hgz:g < z.heap.size:=Nat.lt_of_lt_of_le hg HZ.size;clear hz HXY HRW;go_simp;obtain⟨c0,c1,c2,c3,c4,c5,c6,c7,c8⟩:=nine FV;obtain⟨d0,d1,d2,d3,d4,d5,d6,d7,d8⟩:=nine wO;have f0:=ay wO 0;have f1:=ay wO 1;have f2:=ay wO 2;have f3:=ay wO 3;have f4:=ay wO 4;have f5:=ay wO 5;have f6:=ay wO 6;have f7:=ay wO 7;have f8:=ay wO 8;have hnl:=aA FV;have hrl:=aA wO;exact Ka28):P:=h
theorem ads.Ka28(h:P:=by
 go_wp2_with fail;refine aO (fun W' hW'=>?_)
 have e4:W'.heap[w.heap.size+1]?=some (.cells #[.int .i64 n.id,.int .i64 n.par,.slice a_k n.kids.length aI,.int .i64 n.next,.slice (some ⟨gp,0,none⟩) n.pu.length bf,.slice dA n.out.length aM,.slice dJ n.seen.length aJ,.int .i64 n.old,.slice (some ⟨g,0,none⟩) n.reqs.length aQ] 30 (0,0)):=by
  rw [hW'];exact GR.setW_blk [.int .i64 n.id,.int .i64 n.par,.slice a_k n.kids.length aI,.int .i64 n.next,.slice (some ⟨gp,0,none⟩) n.pu.length bf,.slice dA n.out.length aM,.slice dJ n.seen.length aJ,.int .i64 n.old,.slice (some ⟨g,0,none⟩) n.reqs.length aQ] (o:=0) (xs:=[.int .i64 0,.int .i64 0,.slice none 0 0,.int .i64 0,.slice none 0 0,.slice none 0 0,.slice none 0 0,.int .i64 0,.slice none 0 0]) wO
 have eU:aC [w.heap.size+1] z W':=by
  rw [hW'];exact aL [.int .i64 n.id,.int .i64 n.par,.slice a_k n.kids.length aI,.int .i64 n.next,.slice (some ⟨gp,0,none⟩) n.pu.length bf,.slice dA n.out.length aM,.slice dJ n.seen.length aJ,.int .i64 n.old,.slice (some ⟨g,0,none⟩) n.reqs.length aQ] z 0
 have HAT:=hide (fun W'' (ho:Out c w W' W'')=>(AU.kc (k:=9) ((KC.keeps eU (fun x hx=>by have:x=w.heap.size+1:=(by simpa using hx);rw [this];exact aT (by omega))).trans (KC.out H9 ho)) (by omega)).rm);have jW:Hid (Below B w W'):=(rR.mono hB).trans (eU.below (fun x hx=>by have:x=w.heap.size+1:=(by simpa using hx);omega) (Nat.le_trans hB (rR.mono hB).size));have oJ:=hide (Apart.keeps (c:=c) (Apart.of_below rR) (rR.mono hB).size eU (fun x hx=>by have:x=w.heap.size+1:=(by simpa using hx);omega));obtain⟨x0,x1,x2,x3,x4,x5,x6,x7,x8⟩:=nine e4;clear hW' e4 eU;exact bodyPost_ret (v:= .tuple #[.agg #[.int .i64 n.id,.int .i64 n.par,.slice a_k n.kids.length aI,.int .i64 n.next,.slice (some ⟨gp,0,none⟩) n.pu.length bf,.slice dA n.out.length aM,.slice dJ n.seen.length aJ,.int .i64 n.old,.slice (some ⟨g,0,none⟩) n.reqs.length aQ],.int .i64 1]) (by simp[results,Tryz.results40,go_sem,x0,x1,x2,x3,x4,x5,x6,x7,x8]) rfl ⟨(⟨a_k,(some ⟨gp,0,none⟩),dA,dJ,(some ⟨g,0,none⟩),aI,bf,aM,aJ,aQ⟩:bE),rfl,HAT,jW,oJ⟩):P:=h
theorem adt.Ka28(h:P:=by
 have q3z:z.cell? ⟨g,i*4+3,none⟩=some (.int .i64 0):=(HZ.cell (p:=⟨g,i*4+3,none⟩) hg).trans HQ3
 have g3:z.frozen? ⟨g,i*4+3,none⟩=false:=by
  obtain⟨g',rest,e',_,hb'⟩:=vS AU.r (show 0 < n.reqs.length by omega);simp only[Option.some.injEq,Addr.mk.injEq,and_true] at e';obtain rfl:=e';exact ay hb' _
 have f4n:=ay FV 4
 have hgn:g≠w.heap.size:=fun e=>by
  have h1:=AU.cr g ((hgb g).2 rfl)
  rw [e] at h1
  have h2:newC w.heap.size 9 c w.heap.size=9:=aT (Nat.le_refl _)
  rw [h2] at h1
  cases h1
 have aqu:g≠w.heap.size+1:=fun e=>by
  have h1:=AU.cr g ((hgb g).2 rfl)
  rw [e] at h1
  have h2:newC w.heap.size 9 c (w.heap.size+1)=9:=aT (by omega)
  rw [h2] at h1
  cases h1
 go_upto_region 13 with fail;refine wp_at (fun Z2 hZ=>?_);have iQ:Hid (Z2.heap[w.heap.size]?=some (.cells #[.int .i64 n.id,.int .i64 n.par,.slice a_k n.kids.length aI,.int .i64 n.next,.slice av RL.length cv,.slice dA n.out.length aM,.slice dJ n.seen.length aJ,.int .i64 n.old,.slice (some ⟨g,0,none⟩) n.reqs.length aQ] 30 (0,0))):=by rw [hZ];exact(Below.heap_setCell _ _ _ _ (Ne.symm hgn)).trans (lM FV)
 have iI:Hid (Z2.heap[w.heap.size+1]?=some (.cells iO 30 (0,0))):=by rw [hZ];exact((Below.heap_setCell _ _ _ _ (Ne.symm aqu)).trans (Below.heap_setCell _ _ _ _ (show w.heap.size+1≠w.heap.size by omega))).trans wO
 have jl:=AU.kc (k:=9) (KC.set (g:=w.heap.size) (i:=4) (v:= .slice av RL.length cv) (aT (Nat.le_refl _))) (by omega);have kB:KC (newC w.heap.size 9 c) 6 (z.setCell ⟨w.heap.size,4,none⟩ (.slice av RL.length cv)) Z2:=by rw [hZ];exact KC.set (jl.cr g ((hgb g).2 rfl))
 have hwx:w.heap.size < x.heap.size∧g < x.heap.size:=by
  have:=aA jg;omega
 have hpz:Z2.ownsRow x.heap.size 143 4 (.slice av RL.length cv) RL.length (GR.flat eG RL):=by
  rw [hZ];exact cK (cK F5 (aC.set _) (fun y hy=>by have:y=w.heap.size:=(by simpa using hy);omega)) (aC.set _) (fun y hy=>by have:y=g:=(by simpa using hy);omega)
 have hrz:=(jl.r.stored (i*4+3) (.int .i64 2)).1;rw [GI 2 n.reqs i hi,←hZ] at hrz;have Qb:=hide (And.intro (kB.w jl.k jl.ck (by omega)) (And.intro hpz (And.intro (kB.own jl.o jl.co (by omega)) (And.intro (kB.seenQ jl.sq jl.c4 jl.ci (by omega) (by omega)) hrz))));have iN:=hide (And.intro jl.ck (And.intro jl.co (And.intro jl.c4 (And.intro jl.ci (And.intro jl.cr jl.ni)))))
 have aao:Hid (Below B w Z2):=by
  have hg0:B≤g:=hBg;rw [hZ];exact((rR.mono hB).setCell (p:=⟨w.heap.size,4,none⟩) hB _).setCell (p:=⟨g,i*4+3,none⟩) hg0 _
 have aog:Hid (Apart c w Z2):=fun x hx hc=>by
  have hxg:x≠g:=fun e=>by
   have h1:=AU.cr g ((hgb g).2 rfl)
   rw [←e,dH hx] at h1
   omega
  rw [hZ]
  exact(Below.heap_setCell _ _ _ _ hxg).trans ((Below.heap_setCell _ _ _ _ (Nat.ne_of_lt hx)).trans (rR.block x hx))
 clear hZ jl kB hpz hrz q3z g3 f4n c0 c1 c2 c3 c4 c5 c6 c7 c8 d0 d1 d2 d3 d4 d5 d6 d7 d8 f0 f1 f2 f3 f4 f5 f6 f7 f8 hnl hrl;obtain⟨c0,c1,c2,c3,c4,c5,c6,c7,c8⟩:=nine iQ;obtain⟨d0,d1,d2,d3,d4,d5,d6,d7,d8⟩:=nine iI;have f0:=ay iI 0;have f1:=ay iI 1;have f2:=ay iI 2;have f3:=ay iI 3;have f4:=ay iI 4;have f5:=ay iI 5;have f6:=ay iI 6;have f7:=ay iI 7;have f8:=ay iI 8;have hnl:=aA iQ;have hrl:=aA iI;go_wp2_with fail;refine aO (fun W' hW'=>?_)
 have e4:W'.heap[w.heap.size+1]?=some (.cells #[.int .i64 n.id,.int .i64 n.par,.slice a_k n.kids.length aI,.int .i64 n.next,.slice av RL.length cv,.slice dA n.out.length aM,.slice dJ n.seen.length aJ,.int .i64 n.old,.slice (some ⟨g,0,none⟩) n.reqs.length aQ] 30 (0,0)):=by
  rw [hW'];exact GR.setW_blk [.int .i64 n.id,.int .i64 n.par,.slice a_k n.kids.length aI,.int .i64 n.next,.slice av RL.length cv,.slice dA n.out.length aM,.slice dJ n.seen.length aJ,.int .i64 n.old,.slice (some ⟨g,0,none⟩) n.reqs.length aQ] (o:=0) (xs:=[.int .i64 0,.int .i64 0,.slice none 0 0,.int .i64 0,.slice none 0 0,.slice none 0 0,.slice none 0 0,.int .i64 0,.slice none 0 0]) iI
 have eU:aC [w.heap.size+1] Z2 W':=by
  rw [hW'];exact aL [.int .i64 n.id,.int .i64 n.par,.slice a_k n.kids.length aI,.int .i64 n.next,.slice av RL.length cv,.slice dA n.out.length aM,.slice dJ n.seen.length aJ,.int .i64 n.old,.slice (some ⟨g,0,none⟩) n.reqs.length aQ] Z2 0
 have HAT:=hide (fun W'' (ho:Out c w W' W'')=>(show RM W'' ⟨a_k,av,dA,dJ,(some ⟨g,0,none⟩),aI,cv,aM,aJ,aQ⟩ (dD (setPu n RL) (n.reqs.set i (lV n.reqs[i]))) from by
  have kF:KC (newC w.heap.size 9 c) 9 Z2 W'':=(KC.keeps eU (fun y hy=>by have:y=w.heap.size+1:=(by simpa using hy);rw [this];exact aT (by omega))).trans (KC.out H9 ho)
  have hpF:W''.ownsRow x.heap.size 143 4 (.slice av RL.length cv) RL.length (GR.flat eG RL):=by
   obtain⟨F,hk,hF⟩:=ho;exact cK (cK Qb.2.1 eU (fun y hy=>by have:y=w.heap.size+1:=(by simpa using hy);have:=aA oH;omega)) hk (fun y hy=>by have:=(hF y hy).1;have:=aA oH;omega)
  have Vz:∀g',av.map (fun y=>y.block)=some g'→6 < newC w.heap.size 9 c g':=fun g' hg'=>by
   have h1:=pU hpF (lq hpF hg')
   have h2:=aA oH
   rw [aT (by omega)]
   omega
  have hrF:W''.ownsRow B 97 4 (.slice (some ⟨g,0,none⟩) (n.reqs.set i (lV n.reqs[i])).length aQ) (n.reqs.set i (lV n.reqs[i])).length (GR.flat aK (n.reqs.set i (lV n.reqs[i]))):=by
   rw [List.length_set];exact kF.own Qb.2.2.2.2 iN.2.2.2.2.1 (by omega)
  exact RM.of (n:=dD (setPu n RL) (n.reqs.set i (lV n.reqs[i]))) (A:=⟨a_k,av,dA,dJ,(some ⟨g,0,none⟩),aI,cv,aM,aJ,aQ⟩) (c:=newC w.heap.size 9 c) (kF.w Qb.1 iN.1 (by omega)) iN.1 (kF.seenQ Qb.2.2.2.1 iN.2.2.1 iN.2.2.2.1 (by omega) (by omega)) iN.2.2.1 iN.2.2.2.1 iN.2.2.2.2.2
   (GR.own_ati aZ hpF) (fun g' hg' _=> .inr (Vz g' hg')) (kF.own Qb.2.2.1 iN.2.1 (by omega)) (fun y hy=> .inl (iN.2.1 y hy)) hrF (fun y hy=> .inl (iN.2.2.2.2.1 y hy))
   (fun g' hg' _ h6=>⟨fun e=>by have:=iN.2.1 g' e;omega,fun e=>by have:=iN.2.2.2.2.1 g' e;omega⟩) (fun y hy h6=>by have:=iN.2.1 y hy;omega)))
 have jW:Hid (Below B w W'):=aao.trans (eU.below (fun x hx=>by have:x=w.heap.size+1:=(by simpa using hx);omega) (Nat.le_trans hB aao.size));have oJ:=hide (Apart.keeps (c:=c) aog aao.size eU (fun x hx=>by have:x=w.heap.size+1:=(by simpa using hx);omega));obtain⟨x0,x1,x2,x3,x4,x5,x6,x7,x8⟩:=nine e4;clear hW' e4 eU;exact bodyPost_ret (v:= .tuple #[.agg #[.int .i64 n.id,.int .i64 n.par,.slice a_k n.kids.length aI,.int .i64 n.next,.slice av RL.length cv,.slice dA n.out.length aM,.slice dJ n.seen.length aJ,.int .i64 n.old,.slice (some ⟨g,0,none⟩) n.reqs.length aQ],.int .i64 0]) (by simp[results,Tryz.results40,go_sem,x0,x1,x2,x3,x4,x5,x6,x7,x8]) rfl ⟨⟨a_k,av,dA,dJ,(some ⟨g,0,none⟩),aI,cv,aM,aJ,aQ⟩,by rw [show gu (dD (setPu n RL) (n.reqs.set i (lV n.reqs[i]))) ⟨a_k,av,dA,dJ,(some ⟨g,0,none⟩),aI,cv,aM,aJ,aQ⟩= .agg #[.int .i64 n.id,.int .i64 n.par,.slice a_k n.kids.length aI,.int .i64 n.next,.slice av RL.length cv,.slice dA n.out.length aM,.slice dJ n.seen.length aJ,.int .i64 n.old,.slice (some ⟨g,0,none⟩) n.reqs.length aQ] from by simp[gu,fZ,dD,setPu]],HAT,jW,oJ⟩):P:=h
theorem alW(h:P:=by
 open ajM in exact Qv):P:=h
theorem adu.Ka29(h:P:=by
 have Rp:=au x3 (.cells #[.int .i64 no,.string k,.int .i64 nn,.int .i64 0] 97);have AX:=hide (heap_alloc_new x3 (.cells #[.int .i64 no,.string k,.int .i64 nn,.int .i64 0] 97));open ahk in exact aaS):P:=h
theorem adv.Ka29(h:P:=by
 have Rp:=au x3 (.cells #[.int .i64 no,.string k,.int .i64 nn,.int .i64 1] 97);have AX:=hide (heap_alloc_new x3 (.cells #[.int .i64 no,.string k,.int .i64 nn,.int .i64 1] 97));open ahj in exact aaS):P:=h
theorem JK(h:P:=by
 refine wp_region_quiet_below (by kernel_rfl) (by kernel_rfl) ?_;repeat (first|go_big_quiet_step (exact cO _ _)|quiet_step (exact cO _ _))
 refine wpQuiet_nil ?_;intro _ hw';obtain⟨⟨dq,osq⟩,hw''⟩:=hw';subst hw'';have jX:=hide (Fu.trans ((below_regrown _ dq osq).mono Fu.size));exact Ka30):P:=h
theorem adw.Ka30(h:P:=by
 clear cO y0 y1 y2 y3 y4 y5 y6;exact anq):P:=h
theorem adx.Ka30(h:P:=by
 clear cO y0 y1 y2 y3 y4 y5 y6;go_wp2_with fail;exact bodyPost_ret (v:= .tuple #[rH ⟨1,F,T,I,L,k,N⟩,.bool false]) (by simp[results,Tryz.results65,go_sem,rH]) rfl ⟨by rw [ah HP],jX⟩):P:=h
theorem ady.Ka30(h:P:=by
 clear cO y0 y1 y2 y3 y4 y5 y6;exact anp):P:=h
theorem adz.Ka30(h:P:=by
 clear y0 y1 y2 y3 cO
 all_goals
  go_wp2_with fail
  go_ret
  exact⟨aD HBAD.symm,jX⟩):P:=h
theorem adA.Ka30(h:P:=by
 clear y0 y1 y2 y3 cO
 all_goals
  go_wp2_with fail
  go_roundw
  case rel=>exact⟨0+1,by omega,by go_num,by rw [ah fF,ah kV,ah yZ];rfl,jX⟩
  case measure=>simp[intOf];omega):P:=h
end Go.Proofs.YtacgbldlonoaaaaGreatDoor
