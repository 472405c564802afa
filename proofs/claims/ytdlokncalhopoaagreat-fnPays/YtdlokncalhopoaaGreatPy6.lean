/- Parts. -/
import Derived.Test.YtdlokncalhopoaaGreatPy5
namespace Go.Proofs.YtdlokncalhopoaaGreat
set_option maxHeartbeats 8000000
set_option maxRecDepth 100000
open Go.RowKit
open Mth
theorem rIn (x a b:Int) (r:Bool) (wc:World) (hb:decide (a≤x∧x≤b)=r):∀d os,Calls Tryz.prog 21 #[.int .i64 x,.int .i64 a,.int .i64 b] (Sort.grow (redrawn wc d) os) fun e w''=>e= .returned (.bool r)∧∃p:Regrown,w''=Sort.grow (redrawn wc p.d) p.os:=fun _ _=>
 Calls.regrown_of ((l01InR x a b r _ hb).mono fun _ _ ⟨he,hw⟩=>⟨he,hw▸Below.refl _ _⟩)
theorem rKey (s:ByteArray) (b:Bool) (wc:World) (hs:s.size≤maxLen) (hb:keyOk s.data.toList=b):∀d os,Calls Tryz.prog 23 #[.string s] (Sort.grow (redrawn wc d) os) fun e w''=>e= .returned (.bool b)∧∃p:Regrown,w''=Sort.grow (redrawn wc p.d) p.os:=fun _ _=>
 Calls.regrown_of ((specKeyB s b _ hs hb).mono fun _ _ ⟨he,hw⟩=>⟨he,hw▸Below.refl _ _⟩)
theorem fourC {w:World} {g:Nat} {v0 v1 v2 v3:Value} {t:TypeId} (h:w.heap[g]?=some (.cells #[v0,v1,v2,v3] t (0,0))):
 w.cell? ⟨g,0,none⟩=some v0∧w.cell? ⟨g,1,none⟩=some v1∧w.cell? ⟨g,2,none⟩=some v2∧w.cell? ⟨g,3,none⟩=some v3:=by
 have hc:∀i,w.cell? ⟨g,i,none⟩=#[v0,v1,v2,v3][i]?:=fun i=>cell_of_row w g i _ t (0,0) h
 exact⟨hc 0,hc 1,hc 2,hc 3⟩
theorem l01AmB (x:Int) (b:Bool) (w:World) (h:amB x=b):Calls Tryz.prog 20 #[.int .i64 x] w fun e w'=>e= .returned (.bool b)∧w=w':=by
 rw [←h]
 exact l01Amount x w
theorem Mth.ndOk_head (n:Nd):ndOk n=((placeB n&&psOk n.pu&&toldB n&&smB n.next&&decide (n.out.length≤40)&&amB n.old&&decide (n.reqs.length≤30))&&(chk (outB n) (fun s t=>ltB s.i t.i) n.out&&chk (reqB n) (fun s t=>ltB s.no t.no) n.reqs)):=by
 unfold ndOk outsB reqsB
 cases placeB n<;>cases psOk n.pu<;>cases toldB n<;>cases smB n.next<;>cases decide (n.out.length≤40)<;>cases amB n.old<;>cases decide (n.reqs.length≤30)<;>simp
theorem specNodeOk (n:Nd) (A:Ads) (w:World) (hz:NdSz n 1048600) (ha:NodeAt w A n):
 Calls Tryz.prog 9 #[ndv n A] w fun e w'=>e= .returned (.bool (ndOk n))∧Below w.heap.size w w':=by
 have HA:=hide ha
 have HZ:=hide hz
 have HPL:=hide (fun w1 (hb:Below w.heap.size w w1)=>specPlace n A w1 hz.k (ha.below hb).k)
 have HPU:=hide (fun w1 (hb:Below w.heap.size w w1)=>specPursesOk A.p A.cp n.pu w1 hz.p (fun p hp=>Nat.le_trans (hz.pk p hp) (by unfold maxLen;omega)) (ha.below hb).p)
 have HTO:=hide (fun w1 (hb:Below w.heap.size w w1)=>specTold n A w1 hz.k hz.s hz.sk (ha.below hb).k (ha.below hb).s)
 have HNR:=hide (fun x b wc (hb:Below w.heap.size w wc) (h:nearB n x=b)=>rNear n A x b wc hz.k (ha.below hb).k h)
 have HOT:=hide (fun(s:Snt)=>show outB n s=(decide (1≤s.i∧s.i≤n.next - 1)&&nearB n s.t&&keyOk s.k.data.toList&&smB s.n) from rfl)
 have HRQ:=hide (fun(s:Rq)=>show reqB n s=(decide (n.old+1≤s.no∧s.no≤1000000000)&&keyOk s.k.data.toList&&smB s.n&&decide (0≤s.s∧s.s≤2)) from rfl)
 have HD:=hide (ndOk_head n)
 have HBX:=hide (heap_alloc_new w (.cells (ndc n A) 30))
 generalize placeB n=PL at *
 generalize psOk n.pu=PS at *
 generalize toldB n=TD at *
 generalize outB n=OT at *
 generalize reqB n=RQ at *
 generalize nearB n=NN at *
 generalize ndOk n=TT at *
 obtain⟨id,par,kids,next,pu,out,seen,old,reqs⟩:=n
 obtain⟨ak,ap,ao,as',ar,ck,cp,co,cs,cr⟩:=A
 dsimp only at HPL HPU HTO HNR HOT HRQ HD HBX ⊢
 have hlo:=hz.o
 have hlr:=hz.r
 dsimp only at hlo hlr
 clear ha hz
 go_enter Tryz.func9,Tryz.ntmps9
 go_upto_region 1 with fail
 refine wp_at (fun W0 hW0=>?_)
 have HB0:Hid (W0.heap[w.heap.size]?=some (.cells (ndc ⟨id,par,kids,next,pu,out,seen,old,reqs⟩ ⟨ak,ap,ao,as',ar,ck,cp,co,cs,cr⟩) 30 (0,0))):=by rw [hW0];exact unhide HBX
 have HL0:Hid (Below w.heap.size w W0):=by rw [hW0];exact below_one w _
 clear hW0 HBX
 obtain⟨bb,hbb⟩:∃bb,(!(PL&&PS&&TD&&smB next&&decide (out.length≤40)&&amB old&&decide (reqs.length≤30)))=bb:=⟨_,rfl⟩
 have HBB:=hide hbb
 clear hbb
 obtain⟨c0,c1,c2,c3,c4,c5,c6,c7,c8⟩:=nine (unhide HB0)
 go_cut [44] (fun r wx=>r= .bool bb∧wx.heap[w.heap.size]?=some (.cells (ndc ⟨id,par,kids,next,pu,out,seen,old,reqs⟩ ⟨ak,ap,ao,as',ar,ck,cp,co,cs,cr⟩) 30 (0,0))∧Below w.heap.size w wx)
 case first=>
  go_wp2_with fail
  refine(unhide HPL _ (unhide HL0)).mono ?_
  rintro e w1 ⟨rfl,hb1⟩
  have HB1:=hide (obj_step (unhide HB0) hb1)
  have HL1:=hide ((unhide HL0).trans (hb1.mono (unhide HL0).size))
  clear hb1 c0 c1 c2 c3 c4 c5 c6 c7 c8 HPL
  obtain⟨c0,c1,c2,c3,c4,c5,c6,c7,c8⟩:=nine (unhide HB1)
  cases h1:PL
  case' false=>
   have HV:=hide (show bb=true by rw [←unhide HBB];simp[h1])
   clear HBB h1
   go_wp2_with fail
   go_meet
   case rel=>exact⟨by rw [unhide HV],unhide HB1,unhide HL1⟩
  go_wp2_with fail
  refine(unhide HPU _ (unhide HL1)).mono ?_
  rintro e w2 ⟨rfl,hb1⟩
  have HB2:=hide (obj_step (unhide HB1) hb1)
  have HL2:=hide ((unhide HL1).trans (hb1.mono (unhide HL1).size))
  clear hb1 c0 c1 c2 c3 c4 c5 c6 c7 c8 HPU
  obtain⟨c0,c1,c2,c3,c4,c5,c6,c7,c8⟩:=nine (unhide HB2)
  cases h2:PS
  case' false=>
   have HV:=hide (show bb=true by rw [←unhide HBB];simp[h2])
   clear HBB h2
   go_wp2_with fail
   go_meet
   case rel=>exact⟨by rw [unhide HV],unhide HB2,unhide HL2⟩
  go_wp2_with fail
  refine(unhide HTO _ (unhide HL2)).mono ?_
  rintro e w3 ⟨rfl,hb1⟩
  have HB3:=hide (obj_step (unhide HB2) hb1)
  have HL3:=hide ((unhide HL2).trans (hb1.mono (unhide HL2).size))
  clear hb1 c0 c1 c2 c3 c4 c5 c6 c7 c8 HTO
  obtain⟨c0,c1,c2,c3,c4,c5,c6,c7,c8⟩:=nine (unhide HB3)
  cases h3:TD
  case' false=>
   have HV:=hide (show bb=true by rw [←unhide HBB];simp[h3])
   clear HBB h3
   go_wp2_with fail
   go_meet
   case rel=>exact⟨by rw [unhide HV],unhide HB3,unhide HL3⟩
  cases h4:smB next
  case' false=>
   have HV:=hide (show bb=true by rw [←unhide HBB];simp[h4])
   clear HBB h1 h2 h3
   go_wp2_with (go_at_call 19;refine(l04Some _ _ _ h4).mono ?_;rintro e w9 ⟨rfl,rfl⟩)
   go_meet
   case rel=>exact⟨by rw [unhide HV],unhide HB3,unhide HL3⟩
  by_cases h5:out.length≤40
  case' neg=>
   have hq:decide ((40:Int) < out.length)=true:=decide_eq_true (by omega)
   have HV:=hide (show bb=true by rw [←unhide HBB];simp[h5])
   clear HBB h1 h2 h3
   go_wp2_with (go_at_call 19;refine(l04Some _ _ _ h4).mono ?_;rintro e w9 ⟨rfl,rfl⟩)
   go_meet
   case rel=>exact⟨by rw [unhide HV],unhide HB3,unhide HL3⟩
  have hq:decide ((40:Int) < out.length)=false:=decide_eq_false (by omega)
  cases h6:amB old
  case' false=>
   have HAM:=hide (fun w1=>l01AmB old false w1 h6)
   have HV:=hide (show bb=true by rw [←unhide HBB];simp[h6])
   clear HBB h1 h2 h3
   go_wp2_with (first|(go_at_call 19;refine(l04Some _ _ _ h4).mono ?_;rintro e w9 ⟨rfl,rfl⟩)|(go_at_call 20;refine(unhide HAM _).mono ?_;rintro e w9 ⟨rfl,rfl⟩))
   go_meet
   case rel=>exact⟨by rw [unhide HV],unhide HB3,unhide HL3⟩
  have HAM:=hide (fun w1=>l01AmB old true w1 h6)
  by_cases h7:reqs.length≤30
  case' neg=>
   have hq2:decide ((30:Int) < reqs.length)=true:=decide_eq_true (by omega)
   have HV:=hide (show bb=true by rw [←unhide HBB];simp[h7])
   clear HBB h1 h2 h3
   go_wp2_with (first|(go_at_call 19;refine(l04Some _ _ _ h4).mono ?_;rintro e w9 ⟨rfl,rfl⟩)|(go_at_call 20;refine(unhide HAM _).mono ?_;rintro e w9 ⟨rfl,rfl⟩))
   go_meet
   case rel=>exact⟨by rw [unhide HV],unhide HB3,unhide HL3⟩
  have hq2:decide ((30:Int) < reqs.length)=false:=decide_eq_false (by omega)
  have HV:=hide (show bb=false by rw [←unhide HBB];simp[h1,h2,h3,h4,h5,h6,h7])
  clear HBB h1 h2 h3
  go_wp2_with (first|(go_at_call 19;refine(l04Some _ _ _ h4).mono ?_;rintro e w9 ⟨rfl,rfl⟩)|(go_at_call 20;refine(unhide HAM _).mono ?_;rintro e w9 ⟨rfl,rfl⟩))
  go_meet
  case rel=>exact⟨by rw [unhide HV],unhide HB3,unhide HL3⟩
 case rest=>
  obtain⟨rfl,hblk,hbel⟩:=hcut
  have HB1:=hide hblk
  have HL1:=hide hbel
  clear hblk hbel c0 c1 c2 c3 c4 c5 c6 c7 c8 HPL HPU HTO HB0 HL0
  cases hbv:bb
  case' true=>
   have HP:Hid (TT=false):=by
    have h:=unhide HBB
    rw [hbv] at h
    rw [unhide HD]
    generalize (PL&&PS&&TD&&smB next&&decide (out.length≤40)&&amB old&&decide (reqs.length≤30))=X at *
    cases X
    ·rfl
    ·cases h
   clear HBB HD
   subst hbv
   go_wp2_with fail
   go_ret
   exact⟨ret_bool (unhide HP).symm,unhide HL1⟩
  have HF:Hid (smB next=true∧amB old=true∧TT=(chk OT (fun s t=>ltB s.i t.i) out&&chk RQ (fun s t=>ltB s.no t.no) reqs)):=by
   have h:=unhide HBB
   rw [hbv] at h
   rw [unhide HD]
   cases h4:smB next<;>cases h6:amB old<;>rw [h4,h6] at h
   all_goals first
    |(simp at h;done)
    |skip
   refine⟨rfl,rfl,?_⟩
   generalize (PL&&PS&&TD&&true&&decide (out.length≤40)&&true&&decide (reqs.length≤30))=X at *
   cases X
   ·cases h
   ·rfl
  clear HBB HD
  subst hbv
  obtain⟨hn1,ho1,hTT⟩:=unhide HF
  have HTT:=hide hTT
  have hn2:1≤next∧next≤1000000000:=of_decide_eq_true hn1
  have ho2:0≤old∧old≤1000000000:=of_decide_eq_true ho1
  obtain⟨hn3,hn4⟩:=hn2
  obtain⟨ho3,ho4⟩:=ho2
  clear hn1 ho1 hTT HF
  have HCB:=hide (fun k h=>chk_bad OT (fun s t=>ltB s.i t.i) out k h)
  have HCF:=hide (chk_first OT (fun s t=>ltB s.i t.i) out)
  have HCN:=hide (chk_next OT (fun s t=>ltB s.i t.i) out)
  have HDB:=hide (fun k h=>chk_bad RQ (fun s t=>ltB s.no t.no) reqs k h)
  have HDF:=hide (chk_first RQ (fun s t=>ltB s.no t.no) reqs)
  have HDN:=hide (chk_next RQ (fun s t=>ltB s.no t.no) reqs)
  generalize (fun s t:Snt=>ltB s.i t.i)=RO at *
  generalize (fun s t:Rq=>ltB s.no t.no)=RR at *
  go_wp2_with fail
  go_loopw [3] (fun i wr=>∃k:Nat,k≤out.length∧i= .int .i64 k∧chk OT RO (out.take k)=true∧wr.heap[w.heap.size]?=some (.cells (ndc ⟨id,par,kids,next,pu,out,seen,old,reqs⟩ ⟨ak,ap,ao,as',ar,ck,cp,co,cs,cr⟩) 30 (0,0))∧Below w.heap.size w wr) (fun i _=>out.length - (intOf i).toNat)
  case atStart=>exact⟨0,Nat.zero_le _,rfl,rfl,unhide HB1,unhide HL1⟩
  case round=>
   obtain⟨k,hk,rfl,hall,hblk,hbel⟩:=hrel
   have HALL:=hide hall
   have HBL:=hide hbel
   have HBK:=hide hblk
   obtain⟨c0,c1,c2,c3,c4,c5,c6,c7,c8⟩:=nine hblk
   clear hall hbel hblk
   by_cases hlt:k < out.length
   case' pos=>
    have HBAD:Hid (chk OT RO (out.take (k+1))=false→TT=false):=fun h=>by rw [unhide HTT,unhide HCB _ h];rfl
    obtain⟨g,off,e0,hgw,q0,q1,q2,q3⟩:=SentAt.four ((unhide HA).below (unhide HBL)).o k hlt
    (try dsimp only at e0 q0 q1 q2 q3)
    have hks:=(unhide HZ).ok _ (List.getElem_mem hlt)
    (try dsimp only at hks)
    have HPV:Hid (∃pv:Bool,chk OT RO (out.take (k+1))=(OT out[k]&&pv)∧((k=0∧pv=true)∨∃(j:Nat) (y:Int),k=j+1∧pv=decide (y < (out[k]).i)∧wr.cell? ⟨g,off+j*4,none⟩=some (.int .i64 y))):=by
     cases k with
     |zero=>
      refine⟨true,?_,.inl ⟨rfl,rfl⟩⟩
      rw [Bool.and_true]
      exact unhide HCF hlt
     |succ j=>
      obtain⟨g',off',e2,_,p0,_⟩:=SentAt.four ((unhide HA).below (unhide HBL)).o j (show j < out.length by omega)
      (try dsimp only at e2 p0)
      rw [e0] at e2
      injection e2 with e2
      injection e2 with e2 e3
      subst e2 e3
      refine⟨_,?_,.inr ⟨j,_,rfl,rfl,p0⟩⟩
      have h:=unhide HCN j hlt
      rw [unhide HALL] at h
      exact h
    subst e0
    have HOK:=hide (unhide HOT out[k])
    generalize out[k]=sk at *
    generalize OT sk=OB at *
    obtain⟨si,st,sx,sn⟩:=sk
    dsimp only at q0 q1 q2 q3 hks HPV HOK
    obtain⟨pv,hpv,hpk⟩:=unhide HPV
    have HNX:=hide hpv
    have HPK:=hide hpk
    obtain⟨bb,hbb⟩:∃bb,(!(decide (1≤si∧si≤next - 1)&&NN st&&keyOk sx.data.toList&&smB sn&&pv))=bb:=⟨_,rfl⟩
    have HBB:=hide hbb
    clear hpv hpk HPV hbb HCF HCN HCB
    go_upto_region 7 with fail
    refine wp_at (fun W1 hW1=>?_)
    have HW1:Hid (W1.heap[wr.heap.size]?=some (.cells #[.int .i64 si,.int .i64 st,.string sx,.int .i64 sn] 40 (0,0))):=by rw [hW1];exact heap_alloc_new _ _
    have hbw:Below wr.heap.size wr W1:=by rw [hW1];exact below_one wr _
    have HBK1:=hide (obj_step (unhide HBK) hbw)
    have HBL1:=hide ((unhide HBL).trans (hbw.mono (unhide HBL).size))
    have hgw1:=hbw.size
    have HPK1:Hid ((k=0∧pv=true)∨∃(j:Nat) (y:Int),k=j+1∧pv=decide (y < si)∧W1.cell? ⟨g,off+j*4,none⟩=some (.int .i64 y)):=by
     rcases unhide HPK with h|⟨j,y,h1,h2,h3⟩
     ·exact .inl h
     ·exact .inr ⟨j,y,h1,h2,(hbw.cell (p:=⟨g,off+j*4,none⟩) hgw).trans h3⟩
    clear hW1 hbw q0 q1 q2 q3 c0 c1 c2 c3 c4 c5 c6 c7 c8 HPK HBK
    obtain⟨d0,d1,d2,d3⟩:=fourC (unhide HW1)
    obtain⟨c0,c1,c2,c3,c4,c5,c6,c7,c8⟩:=nine (unhide HBK1)
    have k0:=cell_grown' c0
    have k1:=cell_grown' c1
    have k2:=cell_grown' c2
    have k3:=cell_grown' c3
    have k4:=cell_grown' c4
    have k5:=cell_grown' c5
    have k6:=cell_grown' c6
    have k7:=cell_grown' c7
    have k8:=cell_grown' c8
    have m0:=cell_grown' d0
    have m1:=cell_grown' d1
    have m2:=cell_grown' d2
    have m3:=cell_grown' d3
    have en:IntKind.i64.wrap (next - 1)=next - 1:=IntWalk.i64_in _ ⟨by omega,by omega⟩
    go_cut [98] (fun r wx=>r= .bool bb∧Below W1.heap.size W1 wx)
    case first=>
     rcases unhide HPK1 with⟨rfl,rfl⟩|⟨j,y,rfl,rfl,q1⟩
     ·have hgt:decide ((0:Int) < ((0:Nat):Int))=false:=rfl
      cases h1:decide (1≤si∧si≤next - 1)
      case' false=>
       have a1:=rIn si 1 (next - 1) false W1 h1
       have HV:=hide (show bb=true by rw [←unhide HBB];simp[h1])
       clear HBB
       refine wp_region_quiet_below (by kernel_rfl) (by kernel_rfl) ?_
       repeat (first|go_big_quiet_step ((first|(go_at_call 21;exact a1 _ _)))|quiet_step ((first|(go_at_call 21;exact a1 _ _))))
       refine wpQuiet_nil ?_
       intro _ hw'
       obtain⟨⟨dq,osq⟩,hw''⟩:=hw'
       subst hw''
       go_wp2_with fail
       go_meet
       case rel=>exact⟨by rw [unhide HV],below_regrown _ dq osq⟩
      have a1:=rIn si 1 (next - 1) true W1 h1
      cases h2:NN st
      case' false=>
       have a2:=unhide HNR st false W1 (unhide HBL1) h2
       have HV:=hide (show bb=true by rw [←unhide HBB];simp[h2])
       clear HBB
       refine wp_region_quiet_below (by kernel_rfl) (by kernel_rfl) ?_
       repeat (first|go_big_quiet_step ((first|(go_at_call 21;exact a1 _ _)|(go_at_call 22;exact a2 _ _)))|quiet_step ((first|(go_at_call 21;exact a1 _ _)|(go_at_call 22;exact a2 _ _))))
       refine wpQuiet_nil ?_
       intro _ hw'
       obtain⟨⟨dq,osq⟩,hw''⟩:=hw'
       subst hw''
       go_wp2_with fail
       go_meet
       case rel=>exact⟨by rw [unhide HV],below_regrown _ dq osq⟩
      have a2:=unhide HNR st true W1 (unhide HBL1) h2
      cases h3:keyOk sx.data.toList
      case' false=>
       have a3:=rKey sx false W1 (Nat.le_trans hks (by unfold maxLen;omega)) h3
       have HV:=hide (show bb=true by rw [←unhide HBB];simp[h3])
       clear HBB
       refine wp_region_quiet_below (by kernel_rfl) (by kernel_rfl) ?_
       repeat (first|go_big_quiet_step ((first|(go_at_call 21;exact a1 _ _)|(go_at_call 22;exact a2 _ _)|(go_at_call 23;exact a3 _ _)))|quiet_step ((first|(go_at_call 21;exact a1 _ _)|(go_at_call 22;exact a2 _ _)|(go_at_call 23;exact a3 _ _))))
       refine wpQuiet_nil ?_
       intro _ hw'
       obtain⟨⟨dq,osq⟩,hw''⟩:=hw'
       subst hw''
       go_wp2_with fail
       go_meet
       case rel=>exact⟨by rw [unhide HV],below_regrown _ dq osq⟩
      have a3:=rKey sx true W1 (Nat.le_trans hks (by unfold maxLen;omega)) h3
      cases h4:smB sn
      case' false=>
       have a4:=rSome sn false W1 h4
       have HV:=hide (show bb=true by rw [←unhide HBB];simp[h4])
       clear HBB
       refine wp_region_quiet_below (by kernel_rfl) (by kernel_rfl) ?_
       repeat (first|go_big_quiet_step ((first|(go_at_call 21;exact a1 _ _)|(go_at_call 22;exact a2 _ _)|(go_at_call 23;exact a3 _ _)|(go_at_call 19;exact a4 _ _)))|quiet_step ((first|(go_at_call 21;exact a1 _ _)|(go_at_call 22;exact a2 _ _)|(go_at_call 23;exact a3 _ _)|(go_at_call 19;exact a4 _ _))))
       refine wpQuiet_nil ?_
       intro _ hw'
       obtain⟨⟨dq,osq⟩,hw''⟩:=hw'
       subst hw''
       go_wp2_with fail
       go_meet
       case rel=>exact⟨by rw [unhide HV],below_regrown _ dq osq⟩
      have a4:=rSome sn true W1 h4
      have HV:=hide (show bb=false by rw [←unhide HBB];simp[h1,h2,h3,h4])
      clear HBB
      refine wp_region_quiet_below (by kernel_rfl) (by kernel_rfl) ?_
      repeat (first|go_big_quiet_step ((first|(go_at_call 21;exact a1 _ _)|(go_at_call 22;exact a2 _ _)|(go_at_call 23;exact a3 _ _)|(go_at_call 19;exact a4 _ _)))|quiet_step ((first|(go_at_call 21;exact a1 _ _)|(go_at_call 22;exact a2 _ _)|(go_at_call 23;exact a3 _ _)|(go_at_call 19;exact a4 _ _))))
      refine wpQuiet_nil ?_
      intro _ hw'
      obtain⟨⟨dq,osq⟩,hw''⟩:=hw'
      subst hw''
      go_wp2_with fail
      go_meet
      case rel=>exact⟨by rw [unhide HV],below_regrown _ dq osq⟩
     ·have hgt:decide ((0:Int) < ((j+1:Nat):Int))=true:=decide_eq_true (by omega)
      have m9:=cell_grown' q1
      cases h1:decide (1≤si∧si≤next - 1)
      case' false=>
       have a1:=rIn si 1 (next - 1) false W1 h1
       have HV:=hide (show bb=true by rw [←unhide HBB];simp[h1])
       clear HBB
       refine wp_region_quiet_below (by kernel_rfl) (by kernel_rfl) ?_
       repeat (first|go_big_quiet_step ((first|(go_at_call 21;exact a1 _ _)))|quiet_step ((first|(go_at_call 21;exact a1 _ _))))
       refine wpQuiet_nil ?_
       intro _ hw'
       obtain⟨⟨dq,osq⟩,hw''⟩:=hw'
       subst hw''
       go_wp2_with fail
       go_meet
       case rel=>exact⟨by rw [unhide HV],below_regrown _ dq osq⟩
      have a1:=rIn si 1 (next - 1) true W1 h1
      cases h2:NN st
      case' false=>
       have a2:=unhide HNR st false W1 (unhide HBL1) h2
       have HV:=hide (show bb=true by rw [←unhide HBB];simp[h2])
       clear HBB
       refine wp_region_quiet_below (by kernel_rfl) (by kernel_rfl) ?_
       repeat (first|go_big_quiet_step ((first|(go_at_call 21;exact a1 _ _)|(go_at_call 22;exact a2 _ _)))|quiet_step ((first|(go_at_call 21;exact a1 _ _)|(go_at_call 22;exact a2 _ _))))
       refine wpQuiet_nil ?_
       intro _ hw'
       obtain⟨⟨dq,osq⟩,hw''⟩:=hw'
       subst hw''
       go_wp2_with fail
       go_meet
       case rel=>exact⟨by rw [unhide HV],below_regrown _ dq osq⟩
      have a2:=unhide HNR st true W1 (unhide HBL1) h2
      cases h3:keyOk sx.data.toList
      case' false=>
       have a3:=rKey sx false W1 (Nat.le_trans hks (by unfold maxLen;omega)) h3
       have HV:=hide (show bb=true by rw [←unhide HBB];simp[h3])
       clear HBB
       refine wp_region_quiet_below (by kernel_rfl) (by kernel_rfl) ?_
       repeat (first|go_big_quiet_step ((first|(go_at_call 21;exact a1 _ _)|(go_at_call 22;exact a2 _ _)|(go_at_call 23;exact a3 _ _)))|quiet_step ((first|(go_at_call 21;exact a1 _ _)|(go_at_call 22;exact a2 _ _)|(go_at_call 23;exact a3 _ _))))
       refine wpQuiet_nil ?_
       intro _ hw'
       obtain⟨⟨dq,osq⟩,hw''⟩:=hw'
       subst hw''
       go_wp2_with fail
       go_meet
       case rel=>exact⟨by rw [unhide HV],below_regrown _ dq osq⟩
      have a3:=rKey sx true W1 (Nat.le_trans hks (by unfold maxLen;omega)) h3
      cases h4:smB sn
      case' false=>
       have a4:=rSome sn false W1 h4
       have HV:=hide (show bb=true by rw [←unhide HBB];simp[h4])
       clear HBB
       refine wp_region_quiet_below (by kernel_rfl) (by kernel_rfl) ?_
       repeat (first|go_big_quiet_step ((first|(go_at_call 21;exact a1 _ _)|(go_at_call 22;exact a2 _ _)|(go_at_call 23;exact a3 _ _)|(go_at_call 19;exact a4 _ _)))|quiet_step ((first|(go_at_call 21;exact a1 _ _)|(go_at_call 22;exact a2 _ _)|(go_at_call 23;exact a3 _ _)|(go_at_call 19;exact a4 _ _))))
       refine wpQuiet_nil ?_
       intro _ hw'
       obtain⟨⟨dq,osq⟩,hw''⟩:=hw'
       subst hw''
       go_wp2_with fail
       go_meet
       case rel=>exact⟨by rw [unhide HV],below_regrown _ dq osq⟩
      have a4:=rSome sn true W1 h4
      by_cases hp:y < si
      case' neg=>
       have hy:decide (si≤y)=true:=decide_eq_true (by omega)
       have HV:=hide (show bb=true by rw [←unhide HBB];simp[hp])
       clear HBB
       refine wp_region_quiet_below (by kernel_rfl) (by kernel_rfl) ?_
       repeat (first|go_big_quiet_step ((first|(go_at_call 21;exact a1 _ _)|(go_at_call 22;exact a2 _ _)|(go_at_call 23;exact a3 _ _)|(go_at_call 19;exact a4 _ _)))|quiet_step ((first|(go_at_call 21;exact a1 _ _)|(go_at_call 22;exact a2 _ _)|(go_at_call 23;exact a3 _ _)|(go_at_call 19;exact a4 _ _))))
       refine wpQuiet_nil ?_
       intro _ hw'
       obtain⟨⟨dq,osq⟩,hw''⟩:=hw'
       subst hw''
       go_wp2_with fail
       go_meet
       case rel=>exact⟨by rw [unhide HV],below_regrown _ dq osq⟩
      have hy:decide (si≤y)=false:=decide_eq_false (by omega)
      have HV:=hide (show bb=false by rw [←unhide HBB];simp[h1,h2,h3,h4,hp])
      clear HBB
      refine wp_region_quiet_below (by kernel_rfl) (by kernel_rfl) ?_
      repeat (first|go_big_quiet_step ((first|(go_at_call 21;exact a1 _ _)|(go_at_call 22;exact a2 _ _)|(go_at_call 23;exact a3 _ _)|(go_at_call 19;exact a4 _ _)))|quiet_step ((first|(go_at_call 21;exact a1 _ _)|(go_at_call 22;exact a2 _ _)|(go_at_call 23;exact a3 _ _)|(go_at_call 19;exact a4 _ _))))
      refine wpQuiet_nil ?_
      intro _ hw'
      obtain⟨⟨dq,osq⟩,hw''⟩:=hw'
      subst hw''
      go_wp2_with fail
      go_meet
      case rel=>exact⟨by rw [unhide HV],below_regrown _ dq osq⟩
    case rest=>
     obtain⟨rfl,hbx⟩:=hcut
     have HBK2:=hide (obj_step (unhide HBK1) hbx)
     have HBL2:=hide ((unhide HBL1).trans (hbx.mono (unhide HBL1).size))
     clear hbx d0 d1 d2 d3 c0 c1 c2 c3 c4 c5 c6 c7 c8 k0 k1 k2 k3 k4 k5 k6 k7 k8 m0 m1 m2 m3 HW1 HBK1 HBL1 HPK1
     have HVB:=hide (show chk OT RO (out.take (k+1))= !bb by
      rw [unhide HNX,←unhide HBB,unhide HOK]
      simp only[Bool.not_not])
     cases hbv:bb
     ·have HG:Hid (chk OT RO (out.take (k+1))=true):=by rw [unhide HVB,hbv];exact hide rfl
      subst hbv
      clear HBAD HNX HBB HOK HVB
      go_wp2_with fail
      go_roundw
      case rel=>exact⟨k+1,by omega,by go_num,unhide HG,unhide HBK2,unhide HBL2⟩
      case measure=>simp[intOf];omega
     ·have HP:Hid (TT=false):=unhide HBAD (by rw [unhide HVB,hbv];rfl)
      subst hbv
      clear HBAD HNX HBB HOK HVB
      go_wp2_with fail
      go_ret
      exact⟨ret_bool (unhide HP).symm,unhide HBL2⟩
   have hke:k=out.length:=by omega
   subst hke
   have hnlt:decide ((out.length:Int) < (out.length:Int))=false:=by simp
   have HOF:Hid (TT=chk RQ RR reqs):=by
    have h:=unhide HALL
    rw [List.take_length] at h
    rw [unhide HTT,h]
    rfl
   clear HCF HCN HCB HOT
   go_wp2_with fail
   go_loopw [5] (fun i wr=>∃k:Nat,k≤reqs.length∧i= .int .i64 k∧chk RQ RR (reqs.take k)=true∧wr.heap[w.heap.size]?=some (.cells (ndc ⟨id,par,kids,next,pu,out,seen,old,reqs⟩ ⟨ak,ap,ao,as',ar,ck,cp,co,cs,cr⟩) 30 (0,0))∧Below w.heap.size w wr) (fun i _=>reqs.length - (intOf i).toNat)
   case atStart=>exact⟨0,Nat.zero_le _,rfl,rfl,unhide HBK,unhide HBL⟩
   case round=>
    obtain⟨k,hk,rfl,hall,hblk,hbel⟩:=hrel
    have HALL:=hide hall
    have HBL:=hide hbel
    have HBK:=hide hblk
    clear c0 c1 c2 c3 c4 c5 c6 c7 c8
    obtain⟨c0,c1,c2,c3,c4,c5,c6,c7,c8⟩:=nine hblk
    clear hall hbel hblk
    by_cases hlt:k < reqs.length
    case' neg=>
     have hke:k=reqs.length:=by omega
     subst hke
     have hnlt2:decide ((reqs.length:Int) < (reqs.length:Int))=false:=by simp
     have HF:Hid (TT=true):=by
      have h:=unhide HALL
      rw [List.take_length] at h
      exact(unhide HOF).trans h
     go_wp2_with fail
     go_ret
     exact⟨ret_bool (unhide HF).symm,unhide HBL⟩
    have HBAD:Hid (chk RQ RR (reqs.take (k+1))=false→TT=false):=fun h=>(unhide HOF).trans (unhide HDB _ h)
    obtain⟨g,off,e0,hgw,q0,q1,q2,q3⟩:=ReqAt.four ((unhide HA).below (unhide HBL)).r k hlt
    (try dsimp only at e0 q0 q1 q2 q3)
    have hks:=(unhide HZ).rk _ (List.getElem_mem hlt)
    (try dsimp only at hks)
    have HPV:Hid (∃pv:Bool,chk RQ RR (reqs.take (k+1))=(RQ reqs[k]&&pv)∧((k=0∧pv=true)∨∃(j:Nat) (y:Int),k=j+1∧pv=decide (y < (reqs[k]).no)∧wr.cell? ⟨g,off+j*4,none⟩=some (.int .i64 y))):=by
     cases k with
     |zero=>
      refine⟨true,?_,.inl ⟨rfl,rfl⟩⟩
      rw [Bool.and_true]
      exact unhide HDF hlt
     |succ j=>
      obtain⟨g',off',e2,_,p0,_⟩:=ReqAt.four ((unhide HA).below (unhide HBL)).r j (show j < reqs.length by omega)
      (try dsimp only at e2 p0)
      rw [e0] at e2
      injection e2 with e2
      injection e2 with e2 e3
      subst e2 e3
      refine⟨_,?_,.inr ⟨j,_,rfl,rfl,p0⟩⟩
      have h:=unhide HDN j hlt
      rw [unhide HALL] at h
      exact h
    subst e0
    have HOK:=hide (unhide HRQ reqs[k])
    generalize reqs[k]=sk at *
    generalize RQ sk=OB at *
    obtain⟨si,sx,sn,st⟩:=sk
    dsimp only at q0 q1 q2 q3 hks HPV HOK
    obtain⟨pv,hpv,hpk⟩:=unhide HPV
    have HNX:=hide hpv
    have HPK:=hide hpk
    obtain⟨bb,hbb⟩:∃bb,(!(decide (old+1≤si∧si≤1000000000)&&keyOk sx.data.toList&&smB sn&&decide (0≤st∧st≤2)&&pv))=bb:=⟨_,rfl⟩
    have HBB:=hide hbb
    clear hpv hpk HPV hbb HDF HDN HDB
    go_upto_region 13 with fail
    refine wp_at (fun W1 hW1=>?_)
    have HW1:Hid (W1.heap[wr.heap.size]?=some (.cells #[.int .i64 si,.string sx,.int .i64 sn,.int .i64 st] 56 (0,0))):=by rw [hW1];exact heap_alloc_new _ _
    have hbw:Below wr.heap.size wr W1:=by rw [hW1];exact below_one wr _
    have HBK1:=hide (obj_step (unhide HBK) hbw)
    have HBL1:=hide ((unhide HBL).trans (hbw.mono (unhide HBL).size))
    have hgw1:=hbw.size
    have HPK1:Hid ((k=0∧pv=true)∨∃(j:Nat) (y:Int),k=j+1∧pv=decide (y < si)∧W1.cell? ⟨g,off+j*4,none⟩=some (.int .i64 y)):=by
     rcases unhide HPK with h|⟨j,y,h1,h2,h3⟩
     ·exact .inl h
     ·exact .inr ⟨j,y,h1,h2,(hbw.cell (p:=⟨g,off+j*4,none⟩) hgw).trans h3⟩
    clear hW1 hbw q0 q1 q2 q3 c0 c1 c2 c3 c4 c5 c6 c7 c8 HPK HBK
    obtain⟨d0,d1,d2,d3⟩:=fourC (unhide HW1)
    obtain⟨c0,c1,c2,c3,c4,c5,c6,c7,c8⟩:=nine (unhide HBK1)
    have k0:=cell_grown' c0
    have k1:=cell_grown' c1
    have k2:=cell_grown' c2
    have k3:=cell_grown' c3
    have k4:=cell_grown' c4
    have k5:=cell_grown' c5
    have k6:=cell_grown' c6
    have k7:=cell_grown' c7
    have k8:=cell_grown' c8
    have m0:=cell_grown' d0
    have m1:=cell_grown' d1
    have m2:=cell_grown' d2
    have m3:=cell_grown' d3
    have en:IntKind.i64.wrap (old+1)=old+1:=IntWalk.i64_in _ ⟨by omega,by omega⟩
    go_cut [151] (fun r wx=>r= .bool bb∧Below W1.heap.size W1 wx)
    case first=>
     rcases unhide HPK1 with⟨rfl,rfl⟩|⟨j,y,rfl,rfl,q1⟩
     ·have hgt:decide ((0:Int) < ((0:Nat):Int))=false:=rfl
      cases h1:decide (old+1≤si∧si≤1000000000)
      case' false=>
       have a1:=rIn si (old+1) 1000000000 false W1 h1
       have HV:=hide (show bb=true by rw [←unhide HBB];simp[h1])
       clear HBB
       refine wp_region_quiet_below (by kernel_rfl) (by kernel_rfl) ?_
       repeat (first|go_big_quiet_step ((first|(go_at_call_of 21 si;exact a1 _ _)))|quiet_step ((first|(go_at_call_of 21 si;exact a1 _ _))))
       refine wpQuiet_nil ?_
       intro _ hw'
       obtain⟨⟨dq,osq⟩,hw''⟩:=hw'
       subst hw''
       go_wp2_with fail
       go_meet
       case rel=>exact⟨by rw [unhide HV],below_regrown _ dq osq⟩
      have a1:=rIn si (old+1) 1000000000 true W1 h1
      cases h2:keyOk sx.data.toList
      case' false=>
       have a2:=rKey sx false W1 (Nat.le_trans hks (by unfold maxLen;omega)) h2
       have HV:=hide (show bb=true by rw [←unhide HBB];simp[h2])
       clear HBB
       refine wp_region_quiet_below (by kernel_rfl) (by kernel_rfl) ?_
       repeat (first|go_big_quiet_step ((first|(go_at_call_of 21 si;exact a1 _ _)|(go_at_call 23;exact a2 _ _)))|quiet_step ((first|(go_at_call_of 21 si;exact a1 _ _)|(go_at_call 23;exact a2 _ _))))
       refine wpQuiet_nil ?_
       intro _ hw'
       obtain⟨⟨dq,osq⟩,hw''⟩:=hw'
       subst hw''
       go_wp2_with fail
       go_meet
       case rel=>exact⟨by rw [unhide HV],below_regrown _ dq osq⟩
      have a2:=rKey sx true W1 (Nat.le_trans hks (by unfold maxLen;omega)) h2
      cases h3:smB sn
      case' false=>
       have a3:=rSome sn false W1 h3
       have HV:=hide (show bb=true by rw [←unhide HBB];simp[h3])
       clear HBB
       refine wp_region_quiet_below (by kernel_rfl) (by kernel_rfl) ?_
       repeat (first|go_big_quiet_step ((first|(go_at_call_of 21 si;exact a1 _ _)|(go_at_call 23;exact a2 _ _)|(go_at_call 19;exact a3 _ _)))|quiet_step ((first|(go_at_call_of 21 si;exact a1 _ _)|(go_at_call 23;exact a2 _ _)|(go_at_call 19;exact a3 _ _))))
       refine wpQuiet_nil ?_
       intro _ hw'
       obtain⟨⟨dq,osq⟩,hw''⟩:=hw'
       subst hw''
       go_wp2_with fail
       go_meet
       case rel=>exact⟨by rw [unhide HV],below_regrown _ dq osq⟩
      have a3:=rSome sn true W1 h3
      cases h4:decide (0≤st∧st≤2)
      case' false=>
       have a4:=rIn st 0 2 false W1 h4
       have HV:=hide (show bb=true by rw [←unhide HBB];simp[h4])
       clear HBB
       refine wp_region_quiet_below (by kernel_rfl) (by kernel_rfl) ?_
       repeat (first|go_big_quiet_step ((first|(go_at_call_of 21 si;exact a1 _ _)|(go_at_call 23;exact a2 _ _)|(go_at_call 19;exact a3 _ _)|(go_at_call_of 21 st;exact a4 _ _)))|quiet_step ((first|(go_at_call_of 21 si;exact a1 _ _)|(go_at_call 23;exact a2 _ _)|(go_at_call 19;exact a3 _ _)|(go_at_call_of 21 st;exact a4 _ _))))
       refine wpQuiet_nil ?_
       intro _ hw'
       obtain⟨⟨dq,osq⟩,hw''⟩:=hw'
       subst hw''
       go_wp2_with fail
       go_meet
       case rel=>exact⟨by rw [unhide HV],below_regrown _ dq osq⟩
      have a4:=rIn st 0 2 true W1 h4
      have HV:=hide (show bb=false by rw [←unhide HBB];simp[h1,h2,h3,h4])
      clear HBB
      refine wp_region_quiet_below (by kernel_rfl) (by kernel_rfl) ?_
      repeat (first|go_big_quiet_step ((first|(go_at_call_of 21 si;exact a1 _ _)|(go_at_call 23;exact a2 _ _)|(go_at_call 19;exact a3 _ _)|(go_at_call_of 21 st;exact a4 _ _)))|quiet_step ((first|(go_at_call_of 21 si;exact a1 _ _)|(go_at_call 23;exact a2 _ _)|(go_at_call 19;exact a3 _ _)|(go_at_call_of 21 st;exact a4 _ _))))
      refine wpQuiet_nil ?_
      intro _ hw'
      obtain⟨⟨dq,osq⟩,hw''⟩:=hw'
      subst hw''
      go_wp2_with fail
      go_meet
      case rel=>exact⟨by rw [unhide HV],below_regrown _ dq osq⟩
     ·have hgt:decide ((0:Int) < ((j+1:Nat):Int))=true:=decide_eq_true (by omega)
      have m9:=cell_grown' q1
      cases h1:decide (old+1≤si∧si≤1000000000)
      case' false=>
       have a1:=rIn si (old+1) 1000000000 false W1 h1
       have HV:=hide (show bb=true by rw [←unhide HBB];simp[h1])
       clear HBB
       refine wp_region_quiet_below (by kernel_rfl) (by kernel_rfl) ?_
       repeat (first|go_big_quiet_step ((first|(go_at_call_of 21 si;exact a1 _ _)))|quiet_step ((first|(go_at_call_of 21 si;exact a1 _ _))))
       refine wpQuiet_nil ?_
       intro _ hw'
       obtain⟨⟨dq,osq⟩,hw''⟩:=hw'
       subst hw''
       go_wp2_with fail
       go_meet
       case rel=>exact⟨by rw [unhide HV],below_regrown _ dq osq⟩
      have a1:=rIn si (old+1) 1000000000 true W1 h1
      cases h2:keyOk sx.data.toList
      case' false=>
       have a2:=rKey sx false W1 (Nat.le_trans hks (by unfold maxLen;omega)) h2
       have HV:=hide (show bb=true by rw [←unhide HBB];simp[h2])
       clear HBB
       refine wp_region_quiet_below (by kernel_rfl) (by kernel_rfl) ?_
       repeat (first|go_big_quiet_step ((first|(go_at_call_of 21 si;exact a1 _ _)|(go_at_call 23;exact a2 _ _)))|quiet_step ((first|(go_at_call_of 21 si;exact a1 _ _)|(go_at_call 23;exact a2 _ _))))
       refine wpQuiet_nil ?_
       intro _ hw'
       obtain⟨⟨dq,osq⟩,hw''⟩:=hw'
       subst hw''
       go_wp2_with fail
       go_meet
       case rel=>exact⟨by rw [unhide HV],below_regrown _ dq osq⟩
      have a2:=rKey sx true W1 (Nat.le_trans hks (by unfold maxLen;omega)) h2
      cases h3:smB sn
      case' false=>
       have a3:=rSome sn false W1 h3
       have HV:=hide (show bb=true by rw [←unhide HBB];simp[h3])
       clear HBB
       refine wp_region_quiet_below (by kernel_rfl) (by kernel_rfl) ?_
       repeat (first|go_big_quiet_step ((first|(go_at_call_of 21 si;exact a1 _ _)|(go_at_call 23;exact a2 _ _)|(go_at_call 19;exact a3 _ _)))|quiet_step ((first|(go_at_call_of 21 si;exact a1 _ _)|(go_at_call 23;exact a2 _ _)|(go_at_call 19;exact a3 _ _))))
       refine wpQuiet_nil ?_
       intro _ hw'
       obtain⟨⟨dq,osq⟩,hw''⟩:=hw'
       subst hw''
       go_wp2_with fail
       go_meet
       case rel=>exact⟨by rw [unhide HV],below_regrown _ dq osq⟩
      have a3:=rSome sn true W1 h3
      cases h4:decide (0≤st∧st≤2)
      case' false=>
       have a4:=rIn st 0 2 false W1 h4
       have HV:=hide (show bb=true by rw [←unhide HBB];simp[h4])
       clear HBB
       refine wp_region_quiet_below (by kernel_rfl) (by kernel_rfl) ?_
       repeat (first|go_big_quiet_step ((first|(go_at_call_of 21 si;exact a1 _ _)|(go_at_call 23;exact a2 _ _)|(go_at_call 19;exact a3 _ _)|(go_at_call_of 21 st;exact a4 _ _)))|quiet_step ((first|(go_at_call_of 21 si;exact a1 _ _)|(go_at_call 23;exact a2 _ _)|(go_at_call 19;exact a3 _ _)|(go_at_call_of 21 st;exact a4 _ _))))
       refine wpQuiet_nil ?_
       intro _ hw'
       obtain⟨⟨dq,osq⟩,hw''⟩:=hw'
       subst hw''
       go_wp2_with fail
       go_meet
       case rel=>exact⟨by rw [unhide HV],below_regrown _ dq osq⟩
      have a4:=rIn st 0 2 true W1 h4
      by_cases hp:y < si
      case' neg=>
       have hy:decide (si≤y)=true:=decide_eq_true (by omega)
       have HV:=hide (show bb=true by rw [←unhide HBB];simp[hp])
       clear HBB
       refine wp_region_quiet_below (by kernel_rfl) (by kernel_rfl) ?_
       repeat (first|go_big_quiet_step ((first|(go_at_call_of 21 si;exact a1 _ _)|(go_at_call 23;exact a2 _ _)|(go_at_call 19;exact a3 _ _)|(go_at_call_of 21 st;exact a4 _ _)))|quiet_step ((first|(go_at_call_of 21 si;exact a1 _ _)|(go_at_call 23;exact a2 _ _)|(go_at_call 19;exact a3 _ _)|(go_at_call_of 21 st;exact a4 _ _))))
       refine wpQuiet_nil ?_
       intro _ hw'
       obtain⟨⟨dq,osq⟩,hw''⟩:=hw'
       subst hw''
       go_wp2_with fail
       go_meet
       case rel=>exact⟨by rw [unhide HV],below_regrown _ dq osq⟩
      have hy:decide (si≤y)=false:=decide_eq_false (by omega)
      have HV:=hide (show bb=false by rw [←unhide HBB];simp[h1,h2,h3,h4,hp])
      clear HBB
      refine wp_region_quiet_below (by kernel_rfl) (by kernel_rfl) ?_
      repeat (first|go_big_quiet_step ((first|(go_at_call_of 21 si;exact a1 _ _)|(go_at_call 23;exact a2 _ _)|(go_at_call 19;exact a3 _ _)|(go_at_call_of 21 st;exact a4 _ _)))|quiet_step ((first|(go_at_call_of 21 si;exact a1 _ _)|(go_at_call 23;exact a2 _ _)|(go_at_call 19;exact a3 _ _)|(go_at_call_of 21 st;exact a4 _ _))))
      refine wpQuiet_nil ?_
      intro _ hw'
      obtain⟨⟨dq,osq⟩,hw''⟩:=hw'
      subst hw''
      go_wp2_with fail
      go_meet
      case rel=>exact⟨by rw [unhide HV],below_regrown _ dq osq⟩
    case rest=>
     obtain⟨rfl,hbx⟩:=hcut
     have HBK2:=hide (obj_step (unhide HBK1) hbx)
     have HBL2:=hide ((unhide HBL1).trans (hbx.mono (unhide HBL1).size))
     clear hbx d0 d1 d2 d3 c0 c1 c2 c3 c4 c5 c6 c7 c8 k0 k1 k2 k3 k4 k5 k6 k7 k8 m0 m1 m2 m3 HW1 HBK1 HBL1 HPK1
     have HVB:=hide (show chk RQ RR (reqs.take (k+1))= !bb by
      rw [unhide HNX,←unhide HBB,unhide HOK]
      simp only[Bool.not_not])
     cases hbv:bb
     ·have HG:Hid (chk RQ RR (reqs.take (k+1))=true):=by rw [unhide HVB,hbv];exact hide rfl
      subst hbv
      clear HBAD HNX HBB HOK HVB
      go_wp2_with fail
      go_roundw
      case rel=>exact⟨k+1,by omega,by go_num,unhide HG,unhide HBK2,unhide HBL2⟩
      case measure=>simp[intOf];omega
     ·have HP:Hid (TT=false):=unhide HBAD (by rw [unhide HVB,hbv];rfl)
      subst hbv
      clear HBAD HNX HBB HOK HVB
      go_wp2_with fail
      go_ret
      exact⟨ret_bool (unhide HP).symm,unhide HBL2⟩
end Go.Proofs.YtdlokncalhopoaaGreat
