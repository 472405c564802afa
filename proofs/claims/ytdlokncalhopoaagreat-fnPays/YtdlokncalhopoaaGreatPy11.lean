/- Parts. -/
import Derived.Test.YtdlokncalhopoaaGreatPy10
import Derived.Test.YtdlokncalhopoaaGreatPy6
import Derived.Test.YtdlokncalhopoaaGreatProg
import Derived.Test.YtdlokncalhopoaaGreatPy3
import Derived.Shelf.SortM.Plain
import Derived.Shelf.SortM.SortNone
import Derived.Shelf.SlGeneric
import Derived.Sort.OwnSortedInts
namespace Go.Proofs.YtdlokncalhopoaaGreat
set_option maxHeartbeats 4000000
set_option maxRecDepth 100000
open Go.RowKit
open Mth
theorem implOutOk (n:Nd) (A:Ads) (w:World) (hz:NdSz n 1048600) (hp:placeB n=true) (ha:NodeAt w A n):
 Calls Tryz.prog 34 #[ndv n A] w fun e w'=>e= .returned (.bool (outsB n))∧Below w.heap.size w w':=by
 have HA:=hide ha
 have HD:Hid (outsB n=(decide (n.out.length≤40)&&chk (outB n) (fun s t=>ltB s.i t.i) n.out)):=rfl
 have HCB:=hide (fun k h=>chk_bad (outB n) (fun s t=>ltB s.i t.i) n.out k h)
 have HCL:=hide (fun k h=>chk_last (outB n) (fun s=>s.i) 0 (fun x=>out_pos) n.out k h)
 have HLS:=hide (fun k h=>lastI_snoc (fun s:Snt=>s.i) 0 n.out k h)
 have HLB:=hide (fun k (h:chk (outB n) (fun s t=>ltB s.i t.i) (n.out.take k)=true)=>chk_lastI (key:=fun s=>s.i) (y0:=0) (fun x=>out_pos) h)
 have HKB:=hide (fun s=>show outB n s=(decide (1≤s.i∧s.i≤n.next - 1)&&nearB n s.t&&keyOk s.k.data.toList&&smB s.n) from rfl)
 have HNR:Hid (∀x w1,Below w.heap.size w w1→Calls Tryz.prog 55 #[ndv n A,.int .i64 x] w1 fun e w'=>e= .returned (.bool (nearB n x))∧Below w1.heap.size w1 w'):=fun x w1 hb=>by
  have h:=implNear n A x w1 hz.k (ha.below hb).k
  rw [near_same hp] at h
  exact h
 have hlo:=hz.o
 have HBX:=hide (heap_alloc_new w (.cells (ndc n A) 30))
 generalize outsB n=TT at *
 generalize outB n=KB at *
 generalize nearB n=NN at *
 clear ha hz hp
 obtain⟨id,par,kids,next,pu,out,seen,old,reqs⟩:=n
 obtain⟨ak,ap,ao,as',ar,ck,cp,co,cs,cr⟩:=A
 dsimp only at hlo HD HCB HCL HLS HLB HKB HNR HBX ⊢
 generalize (fun s t:Snt=>ltB s.i t.i)=RR at *
 by_cases h0:out.length≤40
 case' neg=>
  have HP:=hide (show TT=false by rw [unhide HD,decide_eq_false h0];rfl)
  have hb0:decide ((40:Int) < out.length)=true:=decide_eq_true (by omega)
  go_enter Tryz.func34,Tryz.ntmps34
  go_wp2_with fail
  go_ret
  exact⟨ret_bool (unhide HP).symm,below_one w _⟩
 have hb0:decide ((40:Int) < out.length)=false:=decide_eq_false (by omega)
 have HOK:Hid (TT=chk KB RR out):=by rw [unhide HD,decide_eq_true h0];rfl
 clear HD
 go_enter Tryz.func34,Tryz.ntmps34
 go_wp2_with fail
 go_loopw [3,13] (fun lv i wr=>∃(k:Nat) (y:Int),k≤out.length∧i= .int .i64 k∧lv= .int .i64 y∧y=lastI (fun s=>s.i) 0 (out.take k)∧chk KB RR (out.take k)=true∧wr.heap[w.heap.size]?=some (.cells (ndc ⟨id,par,kids,next,pu,out,seen,old,reqs⟩ ⟨ak,ap,ao,as',ar,ck,cp,co,cs,cr⟩) 30 (0,0))∧Below w.heap.size w wr) (fun _ i _=>out.length - (intOf i).toNat)
 case atStart=>exact⟨0,0,Nat.zero_le _,rfl,rfl,rfl,rfl,unhide HBX,below_one w _⟩
 case round=>
  obtain⟨k,y,hk,rfl,rfl,hy,hall,hblk,hbel⟩:=hrel
  have HALL:=hide hall
  have HY:=hide hy
  have HBL:=hide hbel
  have HBK:=hide hblk
  have hy0:0≤y:=by rw [hy];exact unhide HLB k hall
  clear hall hy hblk hbel
  by_cases hlt:k < out.length
  case' neg=>
   have hke:k=out.length:=by omega
   subst hke
   have hnlt:decide ((out.length:Int) < (out.length:Int))=false:=by simp
   have HF:Hid (TT=true):=by
    have h:=unhide HALL
    rw [List.take_length] at h
    exact(unhide HOK).trans h
   go_wp2_with fail
   go_ret
   exact⟨ret_bool (unhide HF).symm,unhide HBL⟩
  obtain⟨g,off,e0,hgw,q0,q1,q2,q3⟩:=SentAt.four ((unhide HA).below (unhide HBL)).o k hlt
  (try dsimp only at e0 q0 q1 q2 q3)
  subst e0
  have HBAD:Hid (chk KB RR (out.take (k+1))=false→TT=false):=fun h=>(unhide HOK).trans (unhide HCB _ h)
  have HNX:Hid (chk KB RR (out.take (k+1))=(KB out[k]&&decide (y < (out[k]).i))):=by
   have h:=unhide HCL k hlt
   have h2:=unhide HALL
   rw [←unhide HY] at h
   rw [h,h2]
   rfl
  have HLN:=hide (unhide HLS k hlt)
  have HKX:=hide (unhide HKB out[k])
  clear HCL HLS HCB HKB HLB
  generalize out[k]=sk at *
  generalize KB sk=OB at *
  obtain⟨si,st,sx,sn⟩:=sk
  dsimp only at q0 q1 q2 q3 HNX HLN HKX
  obtain⟨bb,hbb⟩:∃bb,(!(decide (y < si)&&decide (si < next)&&NN st&&keyOk sx.data.toList&&smB sn))=bb:=⟨_,rfl⟩
  have HBB:=hide hbb
  have HVB:Hid (chk KB RR (out.take (k+1))= !bb):=by
   rw [unhide HNX,←unhide HBB,unhide HKX,Bool.not_not]
   have e1:(decide (1≤si∧si≤next - 1)&&decide (y < si))=(decide (y < si)&&decide (si < next)):=by
    rw [Bool.eq_iff_iff]
    simp only[Bool.and_eq_true,decide_eq_true_eq]
    omega
   rw [←e1]
   generalize decide (1≤si∧si≤next - 1)=z1
   generalize decide (y < si)=z2
   generalize NN st=z3
   generalize keyOk sx.data.toList=z4
   generalize smB sn=z5
   cases z1<;>cases z2<;>cases z3<;>cases z4<;>cases z5<;>exact hide rfl
  clear hbb HNX HKX
  go_upto_region 7 with fail
  refine wp_at (fun W1 hW1=>?_)
  have HW1:Hid (W1.heap[wr.heap.size]?=some (.cells #[.int .i64 si,.int .i64 st,.string sx,.int .i64 sn] 40 (0,0))):=by rw [hW1];exact heap_alloc_new _ _
  have hbw:Below wr.heap.size wr W1:=by rw [hW1];exact below_one wr _
  have HBK1:=hide (obj_step (unhide HBK) hbw)
  have HBL1:=hide ((unhide HBL).trans (hbw.mono (unhide HBL).size))
  clear hW1 hbw q0 q1 q2 q3 HBK
  obtain⟨d0,d1,d2,d3⟩:=fourC (unhide HW1)
  obtain⟨c0,c1,c2,c3,c4,c5,c6,c7,c8⟩:=nine (unhide HBK1)
  go_cut [46] (fun r wx=>r= .bool bb∧Below W1.heap.size W1 wx)
  case first=>
   by_cases h1:y < si
   case' neg=>
    have HV:=hide (show bb=true by rw [←unhide HBB];simp[h1])
    have hb1:decide (si≤y)=true:=decide_eq_true (by omega)
    clear HBB HVB
    go_wp2_with fail
    go_meet
    case rel=>exact⟨by rw [unhide HV],Below.refl _ _⟩
   have hb1:decide (si≤y)=false:=decide_eq_false (by omega)
   by_cases h2:si < next
   case' neg=>
    have HV:=hide (show bb=true by rw [←unhide HBB];simp[h2])
    have hb2:decide (next≤si)=true:=decide_eq_true (by omega)
    clear HBB HVB
    go_wp2_with fail
    go_meet
    case rel=>exact⟨by rw [unhide HV],Below.refl _ _⟩
   have hb2:decide (next≤si)=false:=decide_eq_false (by omega)
   go_wp2_with fail
   refine(unhide HNR _ _ (unhide HBL1)).mono ?_
   rintro e w2 ⟨rfl,hb3⟩
   have HB3:=hide hb3
   have HW2:=hide (obj_step (unhide HW1) hb3)
   clear hb3 d0 d1 d2 d3 c0 c1 c2 c3 c4 c5 c6 c7 c8
   obtain⟨d0,d1,d2,d3⟩:=fourC (unhide HW2)
   cases h3:NN st
   case' false=>
    have HV:=hide (show bb=true by rw [←unhide HBB];simp[h3])
    clear HBB HVB h3
    go_wp2_with fail
    go_meet
    case rel=>exact⟨by rw [unhide HV],unhide HB3⟩
   cases h4:keyOk sx.data.toList
   case' false=>
    have HV:=hide (show bb=true by rw [←unhide HBB];simp[h4])
    have H4:=hide (fun w1=>implKeyR sx false w1 h4)
    clear HBB HVB h3 h4
    go_wp2_with (go_at_call 56;refine(unhide H4 _).mono ?_;rintro e w9 ⟨rfl,rfl⟩)
    go_meet
    case rel=>exact⟨by rw [unhide HV],unhide HB3⟩
   have H4:=hide (fun w1=>implKeyR sx true w1 h4)
   have HV:=hide (show bb= !smB sn by rw [←unhide HBB];simp[h1,h2,h3,h4])
   have H5:=hide (fun w1=>isSomeAmount sn _ w1 rfl)
   clear HBB HVB h3 h4
   go_wp2_with (first|(go_at_call 56;refine(unhide H4 _).mono ?_;rintro e w9 ⟨rfl,rfl⟩)|(go_at_call 33;refine(unhide H5 _).mono ?_;rintro e w9 ⟨rfl,rfl⟩))
   go_meet
   case rel=>exact⟨by rw [unhide HV],unhide HB3⟩
  case rest=>
   obtain⟨rfl,hbx⟩:=hcut
   have HBK2:=hide (obj_step (unhide HBK1) hbx)
   have HBL2:=hide ((unhide HBL1).trans (hbx.mono (unhide HBL1).size))
   have HW2:=hide (obj_step (unhide HW1) hbx)
   clear hbx d0 d1 d2 d3 c0 c1 c2 c3 c4 c5 c6 c7 c8 HW1 HBK1 HBL1 HBB
   obtain⟨d0,d1,d2,d3⟩:=fourC (unhide HW2)
   cases hbv:bb
   ·have HG:=hide (show chk KB RR (out.take (k+1))=true by rw [unhide HVB,hbv];rfl)
    subst hbv
    clear HBAD HVB
    go_wp2_with fail
    go_roundw
    case rel=>exact⟨k+1,si,by omega,by go_num,rfl,(unhide HLN).symm,unhide HG,unhide HBK2,unhide HBL2⟩
    case measure=>simp[intOf];omega
   ·have HP:=hide (unhide HBAD (by rw [unhide HVB,hbv];rfl))
    subst hbv
    clear HBAD HVB
    go_wp2_with fail
    go_ret
    exact⟨ret_bool (unhide HP).symm,unhide HBL2⟩
theorem implReqsOk (n:Nd) (A:Ads) (w:World) (hz:NdSz n 1048600) (ha:NodeAt w A n):
 Calls Tryz.prog 36 #[ndv n A] w fun e w'=>e= .returned (.bool (reqsB n))∧Below w.heap.size w w':=by
 have HA:=hide ha
 have HD:Hid (reqsB n=(amB n.old&&decide (n.reqs.length≤30)&&chk (reqB n) (fun s t=>ltB s.no t.no) n.reqs)):=rfl
 have HCB:=hide (fun k h=>chk_bad (reqB n) (fun s t=>ltB s.no t.no) n.reqs k h)
 have HCL:=hide (fun k h=>chk_last (reqB n) (fun s=>s.no) n.old (fun x=>req_pos) n.reqs k h)
 have HLS:=hide (fun k h=>lastI_snoc (fun s:Rq=>s.no) n.old n.reqs k h)
 have HLB:=hide (fun k (h:chk (reqB n) (fun s t=>ltB s.no t.no) (n.reqs.take k)=true)=>chk_lastI (key:=fun s=>s.no) (y0:=n.old) (fun x=>req_pos) h)
 have HKB:=hide (fun s=>show reqB n s=(decide (n.old+1≤s.no∧s.no≤1000000000)&&keyOk s.k.data.toList&&smB s.n&&decide (0≤s.s∧s.s≤2)) from rfl)
 have hlo:=hz.r
 have HBX:=hide (heap_alloc_new w (.cells (ndc n A) 30))
 generalize reqsB n=TT at *
 generalize reqB n=KB at *
 clear ha hz
 obtain⟨id,par,kids,next,pu,out,seen,old,reqs⟩:=n
 obtain⟨ak,ap,ao,as',ar,ck,cp,co,cs,cr⟩:=A
 dsimp only at hlo HD HCB HCL HLS HLB HKB HBX ⊢
 generalize (fun s t:Rq=>ltB s.no t.no)=RR at *
 cases h1:amB old
 case' false=>
  have HP:=hide (show TT=false by rw [unhide HD,h1];rfl)
  have H1:=hide (fun w1=>implAmB old false w1 h1)
  clear h1 HD
  go_enter Tryz.func36,Tryz.ntmps36
  go_wp2_with (go_at_call 59;refine(unhide H1 _).mono ?_;rintro e w9 ⟨rfl,rfl⟩)
  go_ret
  exact⟨ret_bool (unhide HP).symm,below_one w _⟩
 have H1:=hide (fun w1=>implAmB old true w1 h1)
 have hold:0≤old∧old≤1000000000:=of_decide_eq_true h1
 obtain⟨ho1,ho2⟩:=hold
 by_cases h0:reqs.length≤30
 case' neg=>
  have HP:=hide (show TT=false by rw [unhide HD,decide_eq_false h0];simp)
  have hb0:decide ((30:Int) < reqs.length)=true:=decide_eq_true (by omega)
  clear h1 HD
  go_enter Tryz.func36,Tryz.ntmps36
  go_wp2_with (go_at_call 59;refine(unhide H1 _).mono ?_;rintro e w9 ⟨rfl,rfl⟩)
  go_ret
  exact⟨ret_bool (unhide HP).symm,below_one w _⟩
 have hb0:decide ((30:Int) < reqs.length)=false:=decide_eq_false (by omega)
 have HOK:Hid (TT=chk KB RR reqs):=by rw [unhide HD,h1,decide_eq_true h0];rfl
 clear HD h1
 go_enter Tryz.func36,Tryz.ntmps36
 go_wp2_with (go_at_call 59;refine(unhide H1 _).mono ?_;rintro e w9 ⟨rfl,rfl⟩)
 go_loopw [3,21] (fun lv i wr=>∃(k:Nat) (y:Int),k≤reqs.length∧i= .int .i64 k∧lv= .int .i64 y∧y=lastI (fun s=>s.no) old (reqs.take k)∧chk KB RR (reqs.take k)=true∧wr.heap[w.heap.size]?=some (.cells (ndc ⟨id,par,kids,next,pu,out,seen,old,reqs⟩ ⟨ak,ap,ao,as',ar,ck,cp,co,cs,cr⟩) 30 (0,0))∧Below w.heap.size w wr) (fun _ i _=>reqs.length - (intOf i).toNat)
 case atStart=>exact⟨0,old,Nat.zero_le _,rfl,rfl,rfl,rfl,unhide HBX,below_one w _⟩
 case round=>
  obtain⟨k,y,hk,rfl,rfl,hy,hall,hblk,hbel⟩:=hrel
  have HALL:=hide hall
  have HY:=hide hy
  have HBL:=hide hbel
  have HBK:=hide hblk
  have hy0:old≤y:=by rw [hy];exact unhide HLB k hall
  clear hall hy hblk hbel
  by_cases hlt:k < reqs.length
  case' neg=>
   have hke:k=reqs.length:=by omega
   subst hke
   have hnlt:decide ((reqs.length:Int) < (reqs.length:Int))=false:=by simp
   have HF:Hid (TT=true):=by
    have h:=unhide HALL
    rw [List.take_length] at h
    exact(unhide HOK).trans h
   go_wp2_with fail
   go_ret
   exact⟨ret_bool (unhide HF).symm,unhide HBL⟩
  obtain⟨g,off,e0,hgw,q0,q1,q2,q3⟩:=ReqAt.four ((unhide HA).below (unhide HBL)).r k hlt
  (try dsimp only at e0 q0 q1 q2 q3)
  subst e0
  have HBAD:Hid (chk KB RR (reqs.take (k+1))=false→TT=false):=fun h=>(unhide HOK).trans (unhide HCB _ h)
  have HNX:Hid (chk KB RR (reqs.take (k+1))=(KB reqs[k]&&decide (y < (reqs[k]).no))):=by
   have h:=unhide HCL k hlt
   have h2:=unhide HALL
   rw [←unhide HY] at h
   rw [h,h2]
   rfl
  have HLN:=hide (unhide HLS k hlt)
  have HKX:=hide (unhide HKB reqs[k])
  clear HCL HLS HCB HKB HLB
  generalize reqs[k]=sk at *
  generalize KB sk=OB at *
  obtain⟨si,sx,sn,st⟩:=sk
  dsimp only at q0 q1 q2 q3 HNX HLN HKX
  obtain⟨bb,hbb⟩:∃bb,(!(decide (y < si)&&amB si&&keyOk sx.data.toList&&smB sn&&decide (0≤st)&&decide (st≤2)))=bb:=⟨_,rfl⟩
  have HBB:=hide hbb
  have HVB:Hid (chk KB RR (reqs.take (k+1))= !bb):=by
   rw [unhide HNX,←unhide HBB,unhide HKX,Bool.not_not]
   have e1:(decide (old+1≤si∧si≤1000000000)&&decide (y < si))=(decide (y < si)&&amB si):=by
    rw [Bool.eq_iff_iff]
    unfold amB
    simp only[Bool.and_eq_true,decide_eq_true_eq]
    omega
   have e2:decide (0≤st∧st≤2)=(decide (0≤st)&&decide (st≤2)):=by
    rw [Bool.eq_iff_iff]
    simp only[Bool.and_eq_true,decide_eq_true_eq]
   rw [←e1,e2]
   generalize decide (old+1≤si∧si≤1000000000)=z1
   generalize decide (y < si)=z2
   generalize decide (0≤st)=z3
   generalize decide (st≤2)=z6
   generalize keyOk sx.data.toList=z4
   generalize smB sn=z5
   cases z1<;>cases z2<;>cases z3<;>cases z4<;>cases z5<;>cases z6<;>exact hide rfl
  clear hbb HNX HKX
  go_upto_region 7 with fail
  refine wp_at (fun W1 hW1=>?_)
  have HW1:Hid (W1.heap[wr.heap.size]?=some (.cells #[.int .i64 si,.string sx,.int .i64 sn,.int .i64 st] 56 (0,0))):=by rw [hW1];exact heap_alloc_new _ _
  have hbw:Below wr.heap.size wr W1:=by rw [hW1];exact below_one wr _
  have HBK1:=hide (obj_step (unhide HBK) hbw)
  have HBL1:=hide ((unhide HBL).trans (hbw.mono (unhide HBL).size))
  clear hW1 hbw q0 q1 q2 q3 HBK
  obtain⟨d0,d1,d2,d3⟩:=fourC (unhide HW1)
  go_cut [56] (fun r wx=>r= .bool bb∧wx=W1)
  case first=>
   by_cases g1:y < si
   case' neg=>
    have hb1:decide (si≤y)=true:=decide_eq_true (by omega)
    have HV:=hide (show bb=true by rw [←unhide HBB];simp[g1])
    clear HBB HVB
    go_wp2_with (fail)
    go_meet
    case rel=>exact⟨by rw [unhide HV],rfl⟩
   have hb1:decide (si≤y)=false:=decide_eq_false (by omega)
   cases g2:amB si
   case' false=>
    have Hg2:=hide (fun w1=>implAmB si false w1 g2)
    have HV:=hide (show bb=true by rw [←unhide HBB];simp[g2])
    clear HBB HVB
    go_wp2_with (first|(go_at_call 59;refine(unhide Hg2 _).mono ?_;rintro e w9 ⟨rfl,rfl⟩))
    go_meet
    case rel=>exact⟨by rw [unhide HV],rfl⟩
   have Hg2:=hide (fun w1=>implAmB si true w1 g2)
   cases g3:keyOk sx.data.toList
   case' false=>
    have Hg3:=hide (fun w1=>implKeyR sx false w1 g3)
    have HV:=hide (show bb=true by rw [←unhide HBB];simp[g3])
    clear HBB HVB
    go_wp2_with (first|(go_at_call 59;refine(unhide Hg2 _).mono ?_;rintro e w9 ⟨rfl,rfl⟩)|(go_at_call 56;refine(unhide Hg3 _).mono ?_;rintro e w9 ⟨rfl,rfl⟩))
    go_meet
    case rel=>exact⟨by rw [unhide HV],rfl⟩
   have Hg3:=hide (fun w1=>implKeyR sx true w1 g3)
   cases g4:smB sn
   case' false=>
    have Hg4:=hide (fun w1=>isSomeAmount sn false w1 g4)
    have HV:=hide (show bb=true by rw [←unhide HBB];simp[g4])
    clear HBB HVB
    go_wp2_with (first|(go_at_call 59;refine(unhide Hg2 _).mono ?_;rintro e w9 ⟨rfl,rfl⟩)|(go_at_call 56;refine(unhide Hg3 _).mono ?_;rintro e w9 ⟨rfl,rfl⟩)|(go_at_call 33;refine(unhide Hg4 _).mono ?_;rintro e w9 ⟨rfl,rfl⟩))
    go_meet
    case rel=>exact⟨by rw [unhide HV],rfl⟩
   have Hg4:=hide (fun w1=>isSomeAmount sn true w1 g4)
   by_cases g5:0≤st
   case' neg=>
    have hb5:decide (st < 0)=true:=decide_eq_true (by omega)
    have HV:=hide (show bb=true by rw [←unhide HBB];simp[g5])
    clear HBB HVB
    go_wp2_with (first|(go_at_call 59;refine(unhide Hg2 _).mono ?_;rintro e w9 ⟨rfl,rfl⟩)|(go_at_call 56;refine(unhide Hg3 _).mono ?_;rintro e w9 ⟨rfl,rfl⟩)|(go_at_call 33;refine(unhide Hg4 _).mono ?_;rintro e w9 ⟨rfl,rfl⟩))
    go_meet
    case rel=>exact⟨by rw [unhide HV],rfl⟩
   have hb5:decide (st < 0)=false:=decide_eq_false (by omega)
   by_cases g6:st≤2
   case' neg=>
    have hb6:decide (2 < st)=true:=decide_eq_true (by omega)
    have HV:=hide (show bb=true by rw [←unhide HBB];simp[g6])
    clear HBB HVB
    go_wp2_with (first|(go_at_call 59;refine(unhide Hg2 _).mono ?_;rintro e w9 ⟨rfl,rfl⟩)|(go_at_call 56;refine(unhide Hg3 _).mono ?_;rintro e w9 ⟨rfl,rfl⟩)|(go_at_call 33;refine(unhide Hg4 _).mono ?_;rintro e w9 ⟨rfl,rfl⟩))
    go_meet
    case rel=>exact⟨by rw [unhide HV],rfl⟩
   have hb6:decide (2 < st)=false:=decide_eq_false (by omega)
   have HV:=hide (show bb=false by rw [←unhide HBB];simp[g1,g2,g3,g4,g5,g6])
   clear HBB HVB
   go_wp2_with (first|(go_at_call 59;refine(unhide Hg2 _).mono ?_;rintro e w9 ⟨rfl,rfl⟩)|(go_at_call 56;refine(unhide Hg3 _).mono ?_;rintro e w9 ⟨rfl,rfl⟩)|(go_at_call 33;refine(unhide Hg4 _).mono ?_;rintro e w9 ⟨rfl,rfl⟩))
   go_meet
   case rel=>exact⟨by rw [unhide HV],rfl⟩
  case rest=>
   obtain⟨rfl,rfl⟩:=hcut
   clear HBB
   cases hbv:bb
   ·have HG:=hide (show chk KB RR (reqs.take (k+1))=true by rw [unhide HVB,hbv];rfl)
    subst hbv
    clear HBAD HVB
    go_wp2_with fail
    go_roundw
    case rel=>exact⟨k+1,si,by omega,by go_num,rfl,(unhide HLN).symm,unhide HG,unhide HBK1,unhide HBL1⟩
    case measure=>simp[intOf];omega
   ·have HP:=hide (unhide HBAD (by rw [unhide HVB,hbv];rfl))
    subst hbv
    clear HBAD HVB
    go_wp2_with fail
    go_ret
    exact⟨ret_bool (unhide HP).symm,unhide HBL1⟩
end Go.Proofs.YtdlokncalhopoaaGreat
namespace Go.Proofs
open Go.Shelf
def Tryz.sortL_ren:Go.Shelf.Ren:=⟨fun|5=>74|8=>78|7=>77|19=>89|20=>90|10=>80|11=>81|12=>82|13=>83|14=>84|15=>85|16=>86|17=>87|18=>88|30=>91|31=>92|32=>93|33=>94|34=>95|35=>96|40=>97|n=>n,fun|23=>24|25=>3|3=>3|32=>106|22=>24|0=>0|44=>126|46=>128|4=>4|36=>118|35=>117|41=>123|5=>5|9=>9|53=>129|57=>133|63=>135|64=>136|n=>n,fun|n=>n⟩
theorem Tryz.sortL:Go.Proofs.SlLaysM.n5 Tryz.prog Tryz.sortL_ren:={
 mixed:=by kernel_rfl
 f5:=⟨Tryz.f74.name,by decide,Tryz.func74.trans (congrArg some (by kernel_rfl))⟩
 f7:=⟨Tryz.f77.name,by decide,Tryz.func77.trans (congrArg some (by kernel_rfl))⟩
 f8:=Tryz.func78.trans (congrArg some (by kernel_rfl))
 f10:=⟨Tryz.f80.name,by decide,Tryz.func80.trans (congrArg some (by kernel_rfl))⟩
 f11:=⟨Tryz.f81.name,by decide,Tryz.func81.trans (congrArg some (by kernel_rfl))⟩
 f12:=⟨Tryz.f82.name,by decide,Tryz.func82.trans (congrArg some (by kernel_rfl))⟩
 f13:=⟨Tryz.f83.name,by decide,Tryz.func83.trans (congrArg some (by kernel_rfl))⟩
 f14:=⟨Tryz.f84.name,by decide,Tryz.func84.trans (congrArg some (by kernel_rfl))⟩
 f15:=⟨Tryz.f85.name,by decide,Tryz.func85.trans (congrArg some (by kernel_rfl))⟩
 f16:=⟨Tryz.f86.name,by decide,Tryz.func86.trans (congrArg some (by kernel_rfl))⟩
 f17:=⟨Tryz.f87.name,by decide,Tryz.func87.trans (congrArg some (by kernel_rfl))⟩
 f18:=⟨Tryz.f88.name,by decide,Tryz.func88.trans (congrArg some (by kernel_rfl))⟩
 f19:=Tryz.func89.trans (congrArg some (by kernel_rfl))
 f20:=Tryz.func90.trans (congrArg some (by kernel_rfl))
 f30:=⟨Tryz.f91.name,by decide,Tryz.func91.trans (congrArg some (by kernel_rfl))⟩
 f31:=Tryz.func92.trans (congrArg some (by kernel_rfl))
 f32:=Tryz.func93.trans (congrArg some (by kernel_rfl))
 f33:=⟨Tryz.f94.name,by decide,Tryz.func94.trans (congrArg some (by kernel_rfl))⟩
 f34:=⟨Tryz.f95.name,by decide,Tryz.func95.trans (congrArg some (by kernel_rfl))⟩
 f35:=⟨Tryz.f96.name,by decide,Tryz.func96.trans (congrArg some (by kernel_rfl))⟩
 f40:=⟨Tryz.f97.name,by decide,Tryz.func97.trans (congrArg some (by kernel_rfl))⟩
 t0:=Tryz.underlying0
 a0:=Tryz.isAgg0
 z0:=Tryz.sizeOf0
 v0:=Tryz.zeroValue0
 t3:=Tryz.underlying3
 a3:=Tryz.isAgg3
 z3:=Tryz.sizeOf3
 v3:=Tryz.zeroValue3
 t4:=Tryz.underlying4
 a4:=Tryz.isAgg4
 z4:=Tryz.sizeOf4
 v4:=Tryz.zeroValue4
 t5:=Tryz.underlying5
 a5:=Tryz.isAgg5
 z5:=Tryz.sizeOf5
 v5:=Tryz.zeroValue5
 t9:=Tryz.underlying9
 a9:=Tryz.isAgg9
 z9:=Tryz.sizeOf9
 v9:=Tryz.zeroValue9
 t22:=Tryz.underlying24
 a22:=Tryz.isAgg24
 z22:=Tryz.sizeOf24
 v22:=Tryz.zeroValue24
 t23:=Tryz.underlying24
 a23:=Tryz.isAgg24
 z23:=Tryz.sizeOf24
 v23:=Tryz.zeroValue24
 t25:=Tryz.underlying3
 a25:=Tryz.isAgg3
 z25:=Tryz.sizeOf3
 v25:=Tryz.zeroValue3
 t32:=Tryz.underlying106
 a32:=Tryz.isAgg106
 z32:=Tryz.sizeOf106
 v32:=Tryz.zeroValue106
 t35:=Tryz.underlying117
 a35:=Tryz.isAgg117
 z35:=Tryz.sizeOf117
 v35:=Tryz.zeroValue117
 t36:=Tryz.underlying118
 a36:=Tryz.isAgg118
 z36:=Tryz.sizeOf118
 v36:=Tryz.zeroValue118
 t41:=Tryz.underlying123
 a41:=Tryz.isAgg123
 z41:=Tryz.sizeOf123
 v41:=Tryz.zeroValue123
 t44:=Tryz.underlying126
 a44:=Tryz.isAgg126
 z44:=Tryz.sizeOf126
 v44:=Tryz.zeroValue126
 t46:=Tryz.underlying128
 a46:=Tryz.isAgg128
 z46:=Tryz.sizeOf128
 v46:=Tryz.zeroValue128
 t53:=Tryz.underlying129
 a53:=Tryz.isAgg129
 z53:=Tryz.sizeOf129
 v53:=Tryz.zeroValue129
 t57:=Tryz.underlying133
 a57:=Tryz.isAgg133
 z57:=Tryz.sizeOf133
 v57:=Tryz.zeroValue133
 t63:=Tryz.underlying135
 a63:=Tryz.isAgg135
 z63:=Tryz.sizeOf135
 v63:=Tryz.zeroValue135
 t64:=Tryz.underlying136
 a64:=Tryz.isAgg136
 z64:=Tryz.sizeOf136
 v64:=Tryz.zeroValue136}
end Go.Proofs
namespace Go.Proofs.YtdlokncalhopoaaGreat
set_option maxHeartbeats 2000000
set_option maxRecDepth 100000
open Go.RowKit
open Mth
theorem flat_encNum (l:List Int):GR.flat encNum l=l.map (Value.int .i64):=by
 induction l with
 |nil=>rfl
 |cons x l ih=>rw [GR.flat_cons,ih];rfl
theorem encNum_one:∀(y:Int),∀u∈encNum y,u.oneCell'=true:=by
 intro y u hu
 simp only[encNum,List.mem_cons,List.not_mem_nil,or_false] at hu
 subst hu
 rfl
theorem cloneInts (a:Option Addr) (cap:Nat) (l:List Int) (w:World) (hl:l.length≤1048600) (ha:IntsAt w a l):
 Calls Tryz.prog 73 #[.slice a l.length cap] w fun e w'=>∃v,e= .returned v∧w'.ownsRow w.heap.size 3 1 v l.length (GR.flat encNum l)∧Below w.heap.size w w':=by
 obtain⟨i0,hi,hz0,hz1,hz2⟩:=info_parts infoInt
 have q22:∀(w:World) (a:Option Addr) (n c n' c':Nat),(binOp .eql 24 (.slice a n c) (.slice none n' c')).run Tryz.prog w= .ok (.bool a.isNone) w:=fun w a n c n' c'=>Lib.run_eql_slice_nil w _ _ a n c n' c' Tryz.underlying24
 have hlit:(w.alloc (.cells #[] 3)).ownsRow w.heap.size 3 1 (.slice (some ⟨w.heap.size,0,none⟩) 0 0) 0 []:=World.ownsRow_lit (base:=w.heap.size) (e:=3) (size:=1) w #[] 0 (Nat.le_refl _) (by decide) rfl
 cases a with
 |none=>
  have hl0:l=[]:=GR.none_nil ha
  subst hl0
  clear ha hlit
  go_enter Tryz.func73,Tryz.ntmps73
  go_wp2_with fail
  go_ret
  exact⟨_,rfl,World.ownsRow_nil _ _ _ _,Below.refl _ _⟩
 |some x=>
  have HN:=hide (GR.At.news encNum_length (by omega) (GR.At.below ha (below_one w (.cells #[] 3))))
  clear ha
  go_enter Tryz.func73,Tryz.ntmps73
  go_wp2_with (at_builtin;refine wpList_append_own _ rfl _ _ 24 rfl w.heap.size 3 i0 (.int .i64 0) 1 8 Tryz.underlying24 hi hz0 hz1 hz2 rfl (by decide) _ 0 [] rfl hlit x l.length cap (GR.flat encNum l) rfl ?c0 ?c1 ?c2 ?c3 ?c4 ?c5 ?_)
  case c0=>exact GR.flat_length encNum 1 encNum_length l
  case c1=>exact unhide HN
  case c2=>exact GR.flat_oneCell encNum_one l
  case c3=>unfold maxLen;omega
  case c4=>omega
  case c5=>simp
  intro v' w1 hown' hgrow _
  have HO:=hide (show w1.ownsRow w.heap.size 3 1 v' l.length (GR.flat encNum l) by simpa using hown')
  have hb:Below w.heap.size w w1:=(below_one w _).grown hgrow (by simp) (fun k hk=>by cases hk;exact Nat.le_refl _)
  clear hown' hgrow hlit
  go_wp2
  go_ret
  exact⟨_,rfl,unhide HO,hb⟩
theorem sortOwn (B:Nat) (v:Value) (l:List Int) (w:World) (hl:l.length≤1048602) (hB:B≤w.heap.size) (h:w.ownsRow B 3 1 v l.length (GR.flat encNum l)):
 Calls Tryz.prog 74 #[v] w fun e w'=>e= .returned (.tuple #[])∧w'.ownsRow B 3 1 v l.length (GR.flat encNum (srt l))∧Below B w w':=by
 rw [flat_encNum] at h ⊢
 rcases h.2 with⟨rfl,hn⟩|⟨g,cap,cur,rfl,hg,hblk,h1,h2,h3,h4⟩
 ·have hl0:l=[]:=List.eq_nil_of_length_eq_zero hn
  subst hl0
  refine(AnyM.slices_Sort_int_none Tryz.sortL none 0 w).mono ?_
  rintro e w' ⟨rfl,rfl⟩
  refine⟨rfl,?_,Below.refl _ _⟩
  simpa [srt] using World.ownsRow_nil _ _ _ _
 ·rw [Nat.mul_one] at h4
  have hH:=holds_of_blockI hblk h4
  refine(AnyM.slices_Sort_int Tryz.sortL g 0 cap l w hH (obj_lt hblk) (by omega)).mono ?_
  rintro e w' ⟨rfl,n,os,rfl⟩
  have hs:(srt l).length=l.length:=srt_length l
  have h5:=ownsRow_sortedI (n:=n) (os:=os) (ts:=srt l) hs hg hblk h1 h2 h3
  exact⟨rfl,h5,(Below.refl B w).grown (grownBy_sortedI _) hB (fun k hk=>by cases hk;exact hg)⟩
theorem implNeighbours (n:Nd) (A:Ads) (w:World) (hl:n.kids.length≤1048600) (ha:IntsAt w A.k n.kids):
 Calls Tryz.prog 57 #[ndv n A] w fun e w'=>∃v,e= .returned v∧w'.ownsRow w.heap.size 3 1 v (nbrs n).length (GR.flat encNum (srt (nbrs n)))∧Below w.heap.size w w':=by
 obtain⟨i0,hi,hz0,hz1,hz2⟩:=info_parts infoInt
 have HC:=hide (cloneInts A.k A.ck n.kids (w.alloc (.cells (ndc n A) 30)) hl (GR.At.below ha (below_one w _)))
 have HBX:=hide (heap_alloc_new w (.cells (ndc n A) 30))
 have HNB:Hid ((n.par= -1→nbrs n=n.kids)∧(¬n.par= -1→nbrs n=n.kids++[n.par])):=⟨fun h=>by unfold nbrs;rw [if_pos h,List.append_nil],fun h=>by unfold nbrs;rw [if_neg h]⟩
 have hln:(nbrs n).length≤1048602:=by unfold nbrs;split<;>simp<;>omega
 generalize nbrs n=NB at *
 obtain⟨id,par,kids,next,pu,out,seen,old,reqs⟩:=n
 obtain⟨ak,ap,ao,as',ar,ck,cp,co,cs,cr⟩:=A
 dsimp only at hl HC HBX HNB ⊢
 clear ha
 go_enter Tryz.func57,Tryz.ntmps57
 go_wp2_with fail
 refine(unhide HC).mono ?_
 rintro e w1 ⟨v,rfl,hown,hb1⟩
 have HB1:=hide ((below_one w _).trans (hb1.mono (by simp)))
 have HO1:=hide (GR.own_lower (b':=w.heap.size) hown (by simp))
 obtain⟨c0,c1,_⟩:=nine (obj_step (unhide HBX) hb1)
 clear hown hb1 HC
 go_upto_if 9 with fail
 go_cut [3] (fun r wx=>wx.ownsRow w.heap.size 3 1 r NB.length (GR.flat encNum NB)∧Below w.heap.size w wx)
 case first=>
  by_cases hp:par= -1
  ·have hb:(par != -1)=false:=by simp[hp]
   have HE:=hide ((unhide HNB).1 hp)
   clear hp
   go_wp2_with fail
   go_meet
   case rel=>exact⟨by rw [unhide HE];exact unhide HO1,unhide HB1⟩
  ·have hb:(par != -1)=true:=by simp[hp]
   have HE:=hide ((unhide HNB).2 hp)
   clear hp
   have ho:=unhide HO1
   go_wp2_with (at_builtin;refine wpList_append_own _ rfl _ _ 24 rfl w.heap.size 3 i0 (.int .i64 0) 1 8 Tryz.underlying24 hi hz0 hz1 hz2 rfl (by decide) _ _ _ rfl (ho.alloc _) ⟨w1.heap.size,0,none⟩ 1 1 [.int .i64 par] rfl rfl ?c1 ?c2 ?c3 ?c4 ?c5 ?_)
   case c1=>exact cell_one_new _ _ _
   case c2=>intro u hu;simp at hu;subst hu;rfl
   case c3=>unfold maxLen;omega
   case c4=>omega
   case c5=>have:=(unhide HB1).size;simp;omega
   intro v' w6 hown' hgrow _
   have HB6:=hide (GR.below_append (unhide HB1) (unhide HB1).size ho hgrow)
   have HO6:Hid (w6.ownsRow w.heap.size 3 1 v' NB.length (GR.flat encNum NB)):=by
    rw [unhide HE,GR.flat_append,List.length_append]
    exact hown'
   clear hgrow ho hown'
   go_wp2_with fail
   go_meet
   case rel=>exact⟨unhide HO6,unhide HB6⟩
 case rest=>
  obtain⟨ho,hb⟩:=hcut
  have HS:=hide (sortOwn w.heap.size _ NB wc hln hb.size ho)
  have HB2:=hide hb
  clear ho hb c0 c1
  go_wp2_with fail
  refine(unhide HS).mono ?_
  rintro e w3 ⟨rfl,ho3,hb3⟩
  have HO3:=hide ho3
  have HB3:=hide ((unhide HB2).trans hb3)
  clear ho3 hb3
  go_wp2_with fail
  go_ret
  exact⟨_,rfl,unhide HO3,unhide HB3⟩
end Go.Proofs.YtdlokncalhopoaaGreat
