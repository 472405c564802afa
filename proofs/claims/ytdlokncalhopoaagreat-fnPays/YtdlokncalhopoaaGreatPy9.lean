/- Parts. -/
import Derived.Test.YtdlokncalhopoaaGreatPy1
import Derived.Test.YtdlokncalhopoaaGreatPy2
import Derived.Test.YtdlokncalhopoaaGreatPy8
import Derived.Test.YtdlokncalhopoaaGreatPy3
import Derived.Sort.Walk0
import Derived.Deep.RegionHeld
import Derived.Deep.DeepCutAuto
import Derived.Lib.QuietBelow
import Derived.BigQuiet
import Derived.Laws.Cover1
namespace Go.Proofs.YtdlokncalhopoaaGreat
namespace Mth
abbrev klt (a b:Pu):Prop:=a.k.toList < b.k.toList
theorem less_iff (a b:ByteArray):Op.bytesLess a.toList b.toList=true↔a.toList < b.toList:=by
 rw [bytesLess_eq,decide_eq_true_iff]
theorem sle_false_iff (a b:ByteArray):sle a b=false↔b.toList < a.toList:=by
 unfold sle
 rw [bytesLess_eq,Bool.or_eq_false_iff,decide_eq_false_iff_not,beq_eq_false_iff_ne]
 constructor
 ·rintro⟨h1,h2⟩
  rcases List.le_iff_lt_or_eq.1 (List.not_lt.1 h1) with h|h
  ·exact h
  ·exact absurd h.symm h2
 ·intro h
  exact⟨List.lt_asymm h,fun e=>by rw [e] at h;exact List.lt_irrefl _ h⟩
theorem pairwise_of_next {R:Pu→Pu→Prop} (tr:∀a b c,R a b→R b c→R a c):∀(l:List Pu),(∀i (h:i+1 < l.length),R l[i] l[i+1])→l.Pairwise R:=by
 intro l
 induction l with
 |nil=>intro _;exact List.Pairwise.nil
 |cons x r ih=>
  intro h
  have hr:r.Pairwise R:=ih fun i hi=>h (i+1) (by simpa using hi)
  refine List.Pairwise.cons ?_ hr
  intro y hy
  cases r with
  |nil=>simp at hy
  |cons z s=>
   have hxz:R x z:=h 0 (by simp)
   rcases List.mem_cons.1 hy with rfl|hy
   ·exact hxz
   ·exact tr _ _ _ hxz ((List.pairwise_cons.1 hr).1 y hy)
theorem psOk_iff (l:List Pu):psOk l=true↔(∀p∈l,puOk p=true)∧l.Pairwise klt∧l.length≤20:=by
 unfold psOk
 rw [Bool.and_eq_true,List.all_eq_true,decide_eq_true_iff]
 constructor
 ·rintro⟨h,h20⟩
  refine⟨?_,?_,h20⟩
  ·intro p hp
   obtain⟨i,hi,rfl⟩:=List.mem_iff_getElem.1 hp
   have h1:=h i (List.mem_range.2 hi)
   unfold okAt at h1
   rw [Bool.and_eq_true] at h1
   simpa [List.getD,hi] using h1.1
  ·refine pairwise_of_next (fun a b c (h1:klt a b) (h2:klt b c)=>(List.lt_trans h1 h2:klt a c)) l fun i hi=>?_
   have h1:=h (i+1) (List.mem_range.2 hi)
   unfold okAt at h1
   rw [Bool.and_eq_true] at h1
   have h2:=h1.2
   have hi0:i < l.length:=by omega
   simp[List.getD,hi,hi0] at h2
   exact(sle_false_iff _ _).1 h2
 ·rintro⟨h,hp,h20⟩
  refine⟨?_,h20⟩
  intro i hi
  have hi':=List.mem_range.1 hi
  unfold okAt
  rw [Bool.and_eq_true]
  refine⟨by simpa [List.getD,hi'] using h l[i] (List.getElem_mem hi'),?_⟩
  cases i with
  |zero=>rfl
  |succ i=>
   have hi0:i < l.length:=by omega
   have h2:=(sle_false_iff l[i+1].k l[i].k).2 (List.pairwise_iff_getElem.1 hp i (i+1) hi0 hi' (by omega))
   simp[List.getD,hi',hi0,h2]
def headP (l:List Pu) (k:ByteArray):List Pu:=l.takeWhile fun q=>Op.bytesLess q.k.toList k.toList
def fromP (l:List Pu) (k:ByteArray):List Pu:=l.dropWhile fun q=>Op.bytesLess q.k.toList k.toList
def tailP (l:List Pu) (k:ByteArray):List Pu:=match fromP l k with
 |[]=>[]
 |q::r=>if q.k.toList == k.toList then r else q::r
def putP (l:List Pu) (p:Pu):List Pu:=headP l p.k++p::tailP l p.k
theorem head_from (l:List Pu) (k:ByteArray):headP l k++fromP l k=l:=List.takeWhile_append_dropWhile
theorem tail_sub (l:List Pu) (k:ByteArray):∀q∈tailP l k,q∈fromP l k:=by
 intro q hq
 unfold tailP at hq
 split at hq
 ·simp at hq
 ·rename_i x r e
  rw [e]
  split at hq
  ·exact List.mem_cons_of_mem _ hq
  ·exact hq
def withP (l:List Pu) (p:Pu) (n:Int):List Pu×Bool:=
 if psOk l&&decide (1≤n∧n≤1000000000)&&psOk (putP l p) then(putP l p,true) else(l,false)
end Mth
set_option maxHeartbeats 2000000
set_option maxRecDepth 100000
open Go.RowKit
open Mth
theorem implAm (n:Int) (w:World):Calls Tryz.prog 59 #[.int .i64 n] w fun e w'=>e= .returned (.bool (decide (Inn n 0 1000000000)))∧w=w':=by
 by_cases h0:0≤n
 ·by_cases h1:n≤1000000000
  ·rw [decide_eq_true (show Inn n 0 1000000000 from⟨h0,h1⟩)]
   go_enter Tryz.func59,Tryz.ntmps59
   go_wp2
   go_ret
   exact⟨rfl,rfl⟩
  ·rw [decide_eq_false (show¬Inn n 0 1000000000 from fun h=>h1 h.2)]
   go_enter Tryz.func59,Tryz.ntmps59
   go_wp2
   go_ret
   exact⟨rfl,rfl⟩
 ·rw [decide_eq_false (show¬Inn n 0 1000000000 from fun h=>h0 h.1)]
  go_enter Tryz.func59,Tryz.ntmps59
  go_wp2
  go_ret
  exact⟨rfl,rfl⟩
theorem implAmB (n:Int) (b:Bool) (w:World) (h:amB n=b):Calls Tryz.prog 59 #[.int .i64 n] w fun e w'=>e= .returned (.bool b)∧w=w':=by
 have e:decide (Inn n 0 1000000000)=b:=h
 rw [←e]
 exact implAm n w
theorem implKeyB (s:ByteArray) (b:Bool) (w:World) (h:keyOk s.data.toList=b):Calls Tryz.prog 56 #[.string s] w fun e w'=>e= .returned (.bool b)∧w=w':=by
 rw [←h]
 exact implKeyOk s w
theorem implPuOk (p:Pu) (w:World):Calls Tryz.prog 54 #[puv p] w fun e w'=>e= .returned (.bool (puOk p))∧Below w.heap.size w w':=by
 obtain⟨pk,pm,pf,ps⟩:=p
 cases hk:keyOk pk.data.toList
 case' false=>
  have HP:=hide (show puOk ⟨pk,pm,pf,ps⟩=false by simp[puOk,hk])
  have HK:=hide (fun w1=>implKeyB pk false w1 hk)
  clear hk
  go_enter Tryz.func54,Tryz.ntmps54
  go_wp2_with (go_at_call 56;refine(unhide HK _).mono ?_;rintro e w1 ⟨rfl,rfl⟩)
  go_ret
  exact⟨ret_bool (unhide HP).symm,below_one' w _⟩
 have HK:=hide (fun w1=>implKeyB pk true w1 hk)
 cases h1:amB pm
 case' false=>
  have HP:=hide (show puOk ⟨pk,pm,pf,ps⟩=false by simp[puOk,h1])
  have H1:=hide (fun w1=>implAmB pm false w1 h1)
  clear hk h1
  go_enter Tryz.func54,Tryz.ntmps54
  go_wp2_with (first|(go_at_call 56;refine(unhide HK _).mono ?_;rintro e w1 ⟨rfl,rfl⟩)|(go_at_call 59;refine(unhide H1 _).mono ?_;rintro e w1 ⟨rfl,rfl⟩))
  go_ret
  exact⟨ret_bool (unhide HP).symm,below_one' w _⟩
 have H1:=hide (fun w1=>implAmB pm true w1 h1)
 cases h2:amB pf
 case' false=>
  have HP:=hide (show puOk ⟨pk,pm,pf,ps⟩=false by simp[puOk,h2])
  have H2:=hide (fun w1=>implAmB pf false w1 h2)
  clear hk h1 h2
  go_enter Tryz.func54,Tryz.ntmps54
  go_wp2_with (first|(go_at_call 56;refine(unhide HK _).mono ?_;rintro e w1 ⟨rfl,rfl⟩)|(go_at_call_of 59 pm;refine(unhide H1 _).mono ?_;rintro e w1 ⟨rfl,rfl⟩)|(go_at_call_of 59 pf;refine(unhide H2 _).mono ?_;rintro e w1 ⟨rfl,rfl⟩))
  go_ret
  exact⟨ret_bool (unhide HP).symm,below_one' w _⟩
 have H2:=hide (fun w1=>implAmB pf true w1 h2)
 cases h3:amB ps
 case' false=>
  have HP:=hide (show puOk ⟨pk,pm,pf,ps⟩=false by simp[puOk,h3])
  have H3:=hide (fun w1=>implAmB ps false w1 h3)
  clear hk h1 h2 h3
  go_enter Tryz.func54,Tryz.ntmps54
  go_wp2_with (first|(go_at_call 56;refine(unhide HK _).mono ?_;rintro e w1 ⟨rfl,rfl⟩)|(go_at_call_of 59 pm;refine(unhide H1 _).mono ?_;rintro e w1 ⟨rfl,rfl⟩)|(go_at_call_of 59 pf;refine(unhide H2 _).mono ?_;rintro e w1 ⟨rfl,rfl⟩)|(go_at_call_of 59 ps;refine(unhide H3 _).mono ?_;rintro e w1 ⟨rfl,rfl⟩))
  go_ret
  exact⟨ret_bool (unhide HP).symm,below_one' w _⟩
 have H3:=hide (fun w1=>implAmB ps true w1 h3)
 have g2:0≤pf∧pf≤1000000000:=of_decide_eq_true h2
 have g3:0≤ps∧ps≤1000000000:=of_decide_eq_true h3
 obtain⟨g20,g21⟩:=g2
 obtain⟨g30,g31⟩:=g3
 have HP:=hide (show puOk ⟨pk,pm,pf,ps⟩=amB (pf+ps) by simp[puOk,hk,h1,h2,h3])
 have H4:=hide (fun w1=>implAmB (pf+ps) _ w1 rfl)
 clear hk h1 h2 h3
 go_enter Tryz.func54,Tryz.ntmps54
 go_wp2_with (first|(go_at_call 56;refine(unhide HK _).mono ?_;rintro e w1 ⟨rfl,rfl⟩)|(go_at_call_of 59 pm;refine(unhide H1 _).mono ?_;rintro e w1 ⟨rfl,rfl⟩)|(go_at_call_of 59 pf;refine(unhide H2 _).mono ?_;rintro e w1 ⟨rfl,rfl⟩)|(go_at_call_of 59 ps;refine(unhide H3 _).mono ?_;rintro e w1 ⟨rfl,rfl⟩)|(go_at_call_of 59 (pf+ps);refine(unhide H4 _).mono ?_;rintro e w1 ⟨rfl,rfl⟩))
 go_ret
 exact⟨ret_bool (unhide HP).symm,below_one' w _⟩
namespace Fo
open Go.RowKit
theorem one_block {w w1:World} {A:Obj} (hb:Below (w.alloc A).heap.size (w.alloc A) w1):
 w1.heap[w.heap.size]?=some A∧w.heap.size < w1.heap.size∧Below w.heap.size w w1:=by
 have hs:(w.alloc A).heap.size=w.heap.size+1:=by simp
 have hz:=hb.size
 refine⟨?_,by omega,((Below.refl _ _).alloc (Nat.le_refl _) _).trans (hb.mono (by omega))⟩
 rw [hb.block _ (by omega)]
 exact heap_alloc_new w A
theorem wp_at {P:Program} {c:Code} {Q:Exit→Act→World→Prop} {a:Act} {W:World} (h:∀W',W'=W→Code.wp P c Q a W'):Code.wp P c Q a W:=h W rfl
theorem lt_of_blk {w:World} {g:Nat} {o:Obj} (h:w.heap[g]?=some o):g < w.heap.size:=by
 rcases Nat.lt_or_ge g w.heap.size with h'|h'
 ·exact h'
 ·rw [Array.getElem?_eq_none h'] at h;cases h
end Fo
set_option maxHeartbeats 4000000
theorem implPuOkB (p:Pu) (b:Bool) (w:World) (h:puOk p=b):Calls Tryz.prog 54 #[puv p] w fun e w'=>e= .returned (.bool b)∧Below w.heap.size w w':=by
 rw [←h]
 exact implPuOk p w
theorem less_sle (a b:ByteArray):Op.bytesLess b.toList a.toList= !sle a b:=by
 cases h:sle a b
 ·exact(less_iff _ _).2 ((sle_false_iff a b).1 h)
 ·cases h2:Op.bytesLess b.toList a.toList
  ·rfl
  ·rw [(sle_false_iff a b).2 ((less_iff _ _).1 h2)] at h;cases h
theorem implPursesOk (a:Option Addr) (cap:Nat) (l:List Pu) (w:World) (hl:l.length≤1048600) (ha:PursesAt w a l):
 Calls Tryz.prog 32 #[.slice a l.length cap] w fun e w'=>e= .returned (.bool (psOk l))∧Below w.heap.size w w':=by
 by_cases h20:l.length≤20
 ·have HA:=hide ha
  clear ha
  have hg20:decide (20 < (l.length:Int))=false:=decide_eq_false (by omega)
  go_enter Tryz.func32,Tryz.ntmps32
  go_wp2_with fail
  go_loopw [10] (fun i wr=>∃k:Nat,k≤l.length∧i= .int .i64 k∧(List.range k).all (okAt l)=true∧Below w.heap.size w wr) (fun i _=>l.length - (intOf i).toNat)
  case atStart=>exact⟨0,Nat.zero_le _,rfl,rfl,Below.refl _ _⟩
  case round=>
   obtain⟨k,hk,rfl,hall,hbel⟩:=hrel
   have HBL:=hide hbel
   have HALL:=hide hall
   clear hall hbel
   by_cases hlt:k < l.length
   ·have hat:okAt l k=(puOk l[k]&&(k == 0|| !sle l[k].k (l.getD (k - 1) default).k)):=by unfold okAt;rw [getD_at l k hlt]
    cases k with
    |zero=>
     obtain⟨g,off,rfl,hgw,c0,c1,c2,c3⟩:=PursesAt.four (GR.At.below (unhide HA) (unhide HBL)) 0 hlt
     simp only[Nat.zero_mul,Nat.add_zero] at c0 c1 c2 c3
     have hgt:decide ((0:Int) < ((0:Nat):Int))=false:=rfl
     have HOKA:=hide hat
     have HNX:=hide (all_range_succ (okAt l) 0)
     clear hat
     generalize l[0]=pu at *
     cases hpo:puOk pu
     ·have HO:=hide (fun w1=>implPuOkB pu false w1 hpo)
      have HBAD:=hide (psOk_bad hlt (show okAt l 0=false by rw [unhide HOKA,hpo];rfl))
      clear HOKA HNX hpo
      obtain⟨pk,pm,pf,ps⟩:=pu
      dsimp only at c0 c1 c2 c3
      go_upto_region 6 with fail
      refine Fo.wp_at (fun V hV=>?_)
      have hblk:V.heap[wr.heap.size]?=some (.cells #[.string pk,.int .i64 pm,.int .i64 pf,.int .i64 ps] 80 (0,0)):=by rw [hV];exact heap_alloc_new wr _
      have HBV:=hide (show Below w.heap.size w V by rw [hV];exact(unhide HBL).alloc (unhide HBL).size _)
      have hgV:=Fo.lt_of_blk hblk
      obtain⟨⟨p0,p1,p2,p3⟩,_⟩:=four_at hblk
      clear hblk hV c0 c1 c2 c3
      have cO:∀d os,Calls Tryz.prog 54 #[puv ⟨pk,pm,pf,ps⟩] (Sort.grow (redrawn V d) os) fun e w''=>e= .returned (.bool false)∧∃p:Regrown,w''=Sort.grow (redrawn V p.d) p.os:=fun d os=>Calls.regrown_of (unhide HO _)
      have y0:=cell_regrown p0
      have y1:=cell_regrown p1
      have y2:=cell_regrown p2
      have y3:=cell_regrown p3
      clear HO p0 p1 p2 p3
      refine wp_region_quiet_below (by kernel_rfl) (by kernel_rfl) ?_
      repeat (first|go_big_quiet_step (exact cO _ _)|quiet_step (exact cO _ _))
      refine wpQuiet_nil ?_
      intro _ hw'
      obtain⟨⟨dq,osq⟩,hw''⟩:=hw'
      subst hw''
      have HBL5:=hide ((unhide HBV).trans ((below_regrown _ dq osq).mono (unhide HBV).size))
      clear y0 y1 y2 y3 cO
      all_goals
       go_wp2_with fail
       go_ret
       exact⟨ret_bool (unhide HBAD).symm,unhide HBL5⟩
     ·have HO:=hide (fun w1=>implPuOkB pu true w1 hpo)
      have HGOOD:=hide (show okAt l 0=true by rw [unhide HOKA,hpo];rfl)
      clear HOKA hpo
      obtain⟨pk,pm,pf,ps⟩:=pu
      dsimp only at c0 c1 c2 c3
      go_upto_region 6 with fail
      refine Fo.wp_at (fun V hV=>?_)
      have hblk:V.heap[wr.heap.size]?=some (.cells #[.string pk,.int .i64 pm,.int .i64 pf,.int .i64 ps] 80 (0,0)):=by rw [hV];exact heap_alloc_new wr _
      have HBV:=hide (show Below w.heap.size w V by rw [hV];exact(unhide HBL).alloc (unhide HBL).size _)
      have hgV:=Fo.lt_of_blk hblk
      obtain⟨⟨p0,p1,p2,p3⟩,_⟩:=four_at hblk
      clear hblk hV c0 c1 c2 c3
      have cO:∀d os,Calls Tryz.prog 54 #[puv ⟨pk,pm,pf,ps⟩] (Sort.grow (redrawn V d) os) fun e w''=>e= .returned (.bool true)∧∃p:Regrown,w''=Sort.grow (redrawn V p.d) p.os:=fun d os=>Calls.regrown_of (unhide HO _)
      have y0:=cell_regrown p0
      have y1:=cell_regrown p1
      have y2:=cell_regrown p2
      have y3:=cell_regrown p3
      clear HO p0 p1 p2 p3
      refine wp_region_quiet_below (by kernel_rfl) (by kernel_rfl) ?_
      repeat (first|go_big_quiet_step (exact cO _ _)|quiet_step (exact cO _ _))
      refine wpQuiet_nil ?_
      intro _ hw'
      obtain⟨⟨dq,osq⟩,hw''⟩:=hw'
      subst hw''
      have HBL5:=hide ((unhide HBV).trans ((below_regrown _ dq osq).mono (unhide HBV).size))
      clear y0 y1 y2 y3 cO
      all_goals
       go_wp2_with fail
       go_roundw
       case rel=>exact⟨0+1,by omega,by go_num,by rw [unhide HNX,unhide HALL,unhide HGOOD];rfl,unhide HBL5⟩
       case measure=>simp[intOf];omega
    |succ j=>
     have hlt2:j < l.length:=by omega
     obtain⟨g,off,rfl,hgw,c0,c1,c2,c3⟩:=PursesAt.four (GR.At.below (unhide HA) (unhide HBL)) (j+1) hlt
     obtain⟨g2,off2,e2,hgw2,d0,d1,d2,d3⟩:=PursesAt.four (GR.At.below (unhide HA) (unhide HBL)) j hlt2
     have e3:g=g2:=by injection e2 with e2;injection e2 with e2 e4
     have e4:off=off2:=by injection e2 with e2;injection e2 with e2 e4
     subst e3 e4
     clear e2 hgw2 d1 d2 d3
     have hgt:decide ((0:Int) < ((j+1:Nat):Int))=true:=decide_eq_true (by omega)
     have ej:IntKind.i64.wrap (((j+1:Nat):Int) - 1)=(j:Int):=by rw [IntWalk.i64_in _ ⟨by omega,by omega⟩];omega
     rw [show j+1 - 1=j by omega,getD_at l j hlt2] at hat
     have HOKA:=hide hat
     have HNX:=hide (all_range_succ (okAt l) (j+1))
     clear hat
     generalize l[j+1]=pu at *
     generalize l[j]=pq at *
     obtain⟨q,qm,qf,qs⟩:=pq
     dsimp only at d0
     cases hpo:puOk pu
     ·have HO:=hide (fun w1=>implPuOkB pu false w1 hpo)
      have HBAD:=hide (psOk_bad hlt (show okAt l (j+1)=false by rw [unhide HOKA,hpo];rfl))
      clear HOKA HNX hpo
      obtain⟨pk,pm,pf,ps⟩:=pu
      dsimp only at c0 c1 c2 c3
      go_upto_region 6 with fail
      refine Fo.wp_at (fun V hV=>?_)
      have hblk:V.heap[wr.heap.size]?=some (.cells #[.string pk,.int .i64 pm,.int .i64 pf,.int .i64 ps] 80 (0,0)):=by rw [hV];exact heap_alloc_new wr _
      have HBV:=hide (show Below w.heap.size w V by rw [hV];exact(unhide HBL).alloc (unhide HBL).size _)
      have hgV:=Fo.lt_of_blk hblk
      obtain⟨⟨p0,p1,p2,p3⟩,_⟩:=four_at hblk
      have c4:V.cell? ⟨g,off+j*4,none⟩=some (.string q):=by rw [hV,World.cell?_alloc_lt _ _ _ hgw];exact d0
      have hgq:g < V.heap.size:=by rw [hV];simp;omega
      clear hblk hV c0 c1 c2 c3 d0
      have cO:∀d os,Calls Tryz.prog 54 #[puv ⟨pk,pm,pf,ps⟩] (Sort.grow (redrawn V d) os) fun e w''=>e= .returned (.bool false)∧∃p:Regrown,w''=Sort.grow (redrawn V p.d) p.os:=fun d os=>Calls.regrown_of (unhide HO _)
      have y0:=cell_regrown p0
      have y1:=cell_regrown p1
      have y2:=cell_regrown p2
      have y3:=cell_regrown p3
      have y4:=cell_regrown c4
      clear HO p0 p1 p2 p3 c4
      refine wp_region_quiet_below (by kernel_rfl) (by kernel_rfl) ?_
      repeat (first|go_big_quiet_step (exact cO _ _)|quiet_step (exact cO _ _))
      refine wpQuiet_nil ?_
      intro _ hw'
      obtain⟨⟨dq,osq⟩,hw''⟩:=hw'
      subst hw''
      have HBL5:=hide ((unhide HBV).trans ((below_regrown _ dq osq).mono (unhide HBV).size))
      clear y0 y1 y2 y3 y4 cO
      all_goals
       go_wp2_with fail
       go_ret
       exact⟨ret_bool (unhide HBAD).symm,unhide HBL5⟩
     ·have HO:=hide (fun w1=>implPuOkB pu true w1 hpo)
      cases hsl:Op.bytesLess q.toList pu.k.toList
      ·have HBAD:=hide (psOk_bad hlt (show okAt l (j+1)=false by rw [unhide HOKA,hpo];dsimp only;rw [←less_sle,hsl];simp))
       clear HOKA HNX hpo
       obtain⟨pk,pm,pf,ps⟩:=pu
       dsimp only at c0 c1 c2 c3 hsl
       go_upto_region 6 with fail
       refine Fo.wp_at (fun V hV=>?_)
       have hblk:V.heap[wr.heap.size]?=some (.cells #[.string pk,.int .i64 pm,.int .i64 pf,.int .i64 ps] 80 (0,0)):=by rw [hV];exact heap_alloc_new wr _
       have HBV:=hide (show Below w.heap.size w V by rw [hV];exact(unhide HBL).alloc (unhide HBL).size _)
       have hgV:=Fo.lt_of_blk hblk
       obtain⟨⟨p0,p1,p2,p3⟩,_⟩:=four_at hblk
       have c4:V.cell? ⟨g,off+j*4,none⟩=some (.string q):=by rw [hV,World.cell?_alloc_lt _ _ _ hgw];exact d0
       have hgq:g < V.heap.size:=by rw [hV];simp;omega
       clear hblk hV c0 c1 c2 c3 d0
       have cO:∀d os,Calls Tryz.prog 54 #[puv ⟨pk,pm,pf,ps⟩] (Sort.grow (redrawn V d) os) fun e w''=>e= .returned (.bool true)∧∃p:Regrown,w''=Sort.grow (redrawn V p.d) p.os:=fun d os=>Calls.regrown_of (unhide HO _)
       have y0:=cell_regrown p0
       have y1:=cell_regrown p1
       have y2:=cell_regrown p2
       have y3:=cell_regrown p3
       have y4:=cell_regrown c4
       clear HO p0 p1 p2 p3 c4
       refine wp_region_quiet_below (by kernel_rfl) (by kernel_rfl) ?_
       repeat (first|go_big_quiet_step (exact cO _ _)|quiet_step (exact cO _ _))
       refine wpQuiet_nil ?_
       intro _ hw'
       obtain⟨⟨dq,osq⟩,hw''⟩:=hw'
       subst hw''
       have HBL5:=hide ((unhide HBV).trans ((below_regrown _ dq osq).mono (unhide HBV).size))
       clear y0 y1 y2 y3 y4 cO
       all_goals
        go_wp2_with fail
        go_ret
        exact⟨ret_bool (unhide HBAD).symm,unhide HBL5⟩
      ·have HGOOD:=hide (show okAt l (j+1)=true by rw [unhide HOKA,hpo];dsimp only;rw [←less_sle,hsl];simp)
       clear HOKA hpo
       obtain⟨pk,pm,pf,ps⟩:=pu
       dsimp only at c0 c1 c2 c3 hsl
       go_upto_region 6 with fail
       refine Fo.wp_at (fun V hV=>?_)
       have hblk:V.heap[wr.heap.size]?=some (.cells #[.string pk,.int .i64 pm,.int .i64 pf,.int .i64 ps] 80 (0,0)):=by rw [hV];exact heap_alloc_new wr _
       have HBV:=hide (show Below w.heap.size w V by rw [hV];exact(unhide HBL).alloc (unhide HBL).size _)
       have hgV:=Fo.lt_of_blk hblk
       obtain⟨⟨p0,p1,p2,p3⟩,_⟩:=four_at hblk
       have c4:V.cell? ⟨g,off+j*4,none⟩=some (.string q):=by rw [hV,World.cell?_alloc_lt _ _ _ hgw];exact d0
       have hgq:g < V.heap.size:=by rw [hV];simp;omega
       clear hblk hV c0 c1 c2 c3 d0
       have cO:∀d os,Calls Tryz.prog 54 #[puv ⟨pk,pm,pf,ps⟩] (Sort.grow (redrawn V d) os) fun e w''=>e= .returned (.bool true)∧∃p:Regrown,w''=Sort.grow (redrawn V p.d) p.os:=fun d os=>Calls.regrown_of (unhide HO _)
       have y0:=cell_regrown p0
       have y1:=cell_regrown p1
       have y2:=cell_regrown p2
       have y3:=cell_regrown p3
       have y4:=cell_regrown c4
       clear HO p0 p1 p2 p3 c4
       refine wp_region_quiet_below (by kernel_rfl) (by kernel_rfl) ?_
       repeat (first|go_big_quiet_step (exact cO _ _)|quiet_step (exact cO _ _))
       refine wpQuiet_nil ?_
       intro _ hw'
       obtain⟨⟨dq,osq⟩,hw''⟩:=hw'
       subst hw''
       have HBL5:=hide ((unhide HBV).trans ((below_regrown _ dq osq).mono (unhide HBV).size))
       clear y0 y1 y2 y3 y4 cO
       all_goals
        go_wp2_with fail
        go_roundw
        case rel=>exact⟨(j+1)+1,by omega,by go_num,by rw [unhide HNX,unhide HALL,unhide HGOOD];rfl,unhide HBL5⟩
        case measure=>simp[intOf];omega
   ·have hke:k=l.length:=by omega
    subst hke
    have hnlt:decide ((l.length:Int) < (l.length:Int))=false:=by simp
    have HF:=hide (psOk_good (unhide HALL))
    go_wp2_with fail
    go_ret
    exact⟨ret_bool (by rw [unhide HF];simp<;>omega),unhide HBL⟩
 ·have HF:=hide (show psOk l=false by unfold psOk;simp[h20])
  have hg20:decide (20 < (l.length:Int))=true:=decide_eq_true (by omega)
  clear ha
  go_enter Tryz.func32,Tryz.ntmps32
  go_wp2_with fail
  go_ret
  exact⟨ret_bool (unhide HF).symm,Below.refl _ _⟩
set_option maxHeartbeats 1000000
theorem implIndex (a:Option Addr) (cap:Nat) (l:List Int) (x:Int) (w:World) (hl:l.length≤1048600) (ha:IntsAt w a l):
 Calls Tryz.prog 79 #[.slice a l.length cap,.int .i64 x] w fun e w'=>(∃i:Int,e= .returned (.int .i64 i)∧decide (0≤i)=hasB l x)∧w=w':=by
 have HA:=hide ha
 clear ha
 go_enter Tryz.func79,Tryz.ntmps79
 go_wp2_with fail
 go_loop [8] (fun i=>∃k:Nat,k≤l.length∧i= .int .i64 k∧hasB (l.take k) x=false) (fun i=>l.length - (intOf i).toNat)
 case atStart=>exact⟨0,Nat.zero_le _,rfl,rfl⟩
 case round=>
  obtain⟨k,hk,rfl,hno⟩:=hrel
  have HN:=hide hno
  clear hno
  by_cases hlt:k < l.length
  ·obtain⟨g,off,rfl,hgw,q0⟩:=IntsAt.one (unhide HA) k hlt
   by_cases hx:l[k]=x
   ·have HY:=hide (has_yes l x k hlt hx)
    rw [hx] at q0
    clear hx
    go_wp2_with fail
    go_ret
    exact⟨⟨k,rfl,by rw [unhide HY];simp⟩,rfl⟩
   ·have HS:=hide (has_snoc l x k hlt)
    rw [decide_eq_false hx] at HS
    have hx':¬(x=l[k]):=fun h=>hx h.symm
    generalize l[k]=y at *
    go_wp2_with fail
    go_round
    case rel=>exact⟨k+1,by omega,by go_num,by rw [unhide HS,unhide HN];rfl⟩
    case measure=>simp[intOf];omega
  ·have hke:k=l.length:=by omega
   subst hke
   have hnlt:decide ((l.length:Int) < (l.length:Int))=false:=by simp
   have h:=unhide HN
   rw [List.take_length] at h
   have HF:=hide h
   clear h
   go_wp2_with fail
   go_ret
   exact⟨⟨-1,rfl,by rw [unhide HF];rfl⟩,rfl⟩
theorem implContains (a:Option Addr) (cap:Nat) (l:List Int) (x:Int) (w:World) (hl:l.length≤1048600) (ha:IntsAt w a l):
 Calls Tryz.prog 76 #[.slice a l.length cap,.int .i64 x] w fun e w'=>e= .returned (.bool (hasB l x))∧w=w':=by
 have HI:=hide (implIndex a cap l x w hl ha)
 clear ha
 go_enter Tryz.func76,Tryz.ntmps76
 go_wp2_with fail
 refine(unhide HI).mono ?_
 rintro e w1 ⟨⟨i,rfl,hi⟩,rfl⟩
 have HD:=hide hi
 clear hi
 go_wp2_with fail
 go_ret
 exact⟨ret_bool (unhide HD),rfl⟩
theorem implIsKid (n:Nd) (A:Ads) (x:Int) (w:World) (hl:n.kids.length≤1048600) (ha:IntsAt w A.k n.kids):
 Calls Tryz.prog 70 #[ndv n A,.int .i64 x] w fun e w'=>e= .returned (.bool (hasB n.kids x))∧Below w.heap.size w w':=by
 have HH:=hide (implContains A.k A.ck n.kids x (w.alloc (.cells (ndc n A) 30)) hl (GR.At.below ha (below_one w _)))
 clear ha
 go_enter Tryz.func70,Tryz.ntmps70
 go_wp2_with (go_at_call 76;refine(unhide HH).mono ?_;rintro e w1 ⟨rfl,rfl⟩)
 go_ret
 exact⟨rfl,below_one w _⟩
def Mth.nearI (n:Nd) (x:Int):Bool:=ndB x&&(decide (x=n.par)||hasB n.kids x)
theorem Mth.near_same {n:Nd} (h:placeB n=true) (x:Int):nearI n x=nearB n x:=by
 obtain⟨h1,_,h3⟩:=place_kids h
 have hp:n.par≤29:=by
  unfold placeB at h
  simp only[Bool.and_eq_true] at h
  exact(of_decide_eq_true h.1.1.1.2).2
 unfold nearI nearB
 cases hh:hasB n.kids x
 ·simp only[Bool.or_false]
  by_cases hx:x=n.par
  ·by_cases h0:0≤x
   ·simp[ndB,hx];omega
   ·simp[ndB,hx];omega
  ·simp[hx]
 ·have h2:=h1 x ((has_iff _ _).1 hh)
  unfold kidB at h2
  simp only[Bool.and_eq_true] at h2
  rw [h2.1.1]
  simp
theorem implNear (n:Nd) (A:Ads) (x:Int) (w:World) (hl:n.kids.length≤1048600) (ha:IntsAt w A.k n.kids):
 Calls Tryz.prog 55 #[ndv n A,.int .i64 x] w fun e w'=>e= .returned (.bool (nearI n x))∧Below w.heap.size w w':=by
 have HK:=hide (implIsKid n A x (w.alloc (.cells (ndc n A) 30)) hl (GR.At.below ha (below_one w _)))
 clear ha
 cases h0:ndB x
 ·have HN:=hide (show nearI n x=false by simp[nearI,h0])
  have HA:=hide (fun w1=>isNode x false w1 h0)
  clear h0
  go_enter Tryz.func55,Tryz.ntmps55
  go_wp2_with (go_at_call 53;refine(unhide HA _).mono ?_;rintro e w1 ⟨rfl,rfl⟩)
  go_ret
  exact⟨ret_bool (unhide HN).symm,below_one w _⟩
 ·have HA:=hide (fun w1=>isNode x true w1 h0)
  by_cases h1:x=n.par
  ·have HN:=hide (show nearI n x=true by unfold nearI;rw [h0,decide_eq_true h1];rfl)
   have h2:(x == n.par)=true:=by simp[h1]
   clear h1 h0
   go_enter Tryz.func55,Tryz.ntmps55
   go_wp2_with (go_at_call 53;refine(unhide HA _).mono ?_;rintro e w1 ⟨rfl,rfl⟩)
   go_ret
   exact⟨ret_bool (unhide HN).symm,below_one w _⟩
  ·have HN:=hide (show nearI n x=hasB n.kids x by simp[nearI,h1,h0])
   have h2:(x == n.par)=false:=by simp[h1]
   clear h1 h0
   go_enter Tryz.func55,Tryz.ntmps55
   go_wp2_with (first|(go_at_call 53;refine(unhide HA _).mono ?_;rintro e w1 ⟨rfl,rfl⟩)|(go_at_call 70;refine(unhide HK).mono ?_;rintro e w2 ⟨rfl,hb2⟩))
   go_ret
   exact⟨ret_bool (unhide HN).symm,(below_one w _).trans (hb2.mono (by simp))⟩
end Go.Proofs.YtdlokncalhopoaaGreat
