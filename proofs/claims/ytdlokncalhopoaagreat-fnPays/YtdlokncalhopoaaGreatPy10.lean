/- Parts. -/
import Derived.Test.YtdlokncalhopoaaGreatPy9
import Derived.Test.YtdlokncalhopoaaGreatPy5
namespace Go.Proofs.YtdlokncalhopoaaGreat
set_option maxHeartbeats 4000000
set_option maxRecDepth 100000
open Go.RowKit
open Mth
namespace Mth
def upTo (n:Nat):List Int:=(List.range n).map Int.ofNat
theorem upTo_asc (n:Nat):(upTo n).Pairwise (· < ·):=by
 unfold upTo
 rw [List.pairwise_map]
 exact List.pairwise_lt_range.imp (fun {a b} h=>by show(a:Int) < (b:Int);omega)
theorem upTo_mem (n:Nat) (x:Int):x∈upTo n↔0≤x∧x < n:=by
 unfold upTo
 rw [List.mem_map]
 constructor
 ·rintro⟨a,ha,rfl⟩
  have:=List.mem_range.1 ha
  show 0≤(a:Int)∧(a:Int) < n
  omega
 ·intro h
  exact⟨x.toNat,List.mem_range.2 (by omega),by show((x.toNat:Nat):Int)=x;omega⟩
theorem kids_few {id par:Int} {l:List Int} (h:chk (kidB id par) ltB l=true):l.length≤30:=by
 obtain⟨h1,h2⟩:=(chk_iff (r:=ltB) ltB_trans).1 h
 have h3:=asc_le (upTo 30) l (h2.imp (fun {a b} h=>of_decide_eq_true h)) (upTo_asc 30) (fun x hx=>by
  have h4:=h1 x hx
  unfold kidB ndB at h4
  simp only[Bool.and_eq_true,decide_eq_true_eq] at h4
  rw [upTo_mem]
  omega)
 simpa [upTo] using h3
def placeI (n:Nd):Bool:=ndB n.id&&(decide (n.par= -1)||(ndB n.par&&decide (n.par≠n.id)))&&chk (kidB n.id n.par) ltB n.kids
theorem place_same (n:Nd):placeI n=placeB n:=by
 unfold placeI placeB
 cases hc:chk (kidB n.id n.par) ltB n.kids
 ·simp
 ·rw [decide_eq_true (kids_few hc)]
  cases hi:ndB n.id
  ·simp
  ·have h0:0≤n.id∧n.id≤29:=of_decide_eq_true hi
   by_cases h1:n.par= -1
   ·have h2:n.par≠n.id:=by omega
    rw [decide_eq_true h1,decide_eq_true h2,decide_eq_true (show -1≤n.par∧n.par≤29 by omega)]
    rfl
   ·rw [decide_eq_false h1]
    unfold ndB
    by_cases h2:0≤n.par∧n.par≤29
    ·rw [decide_eq_true h2,decide_eq_true (show -1≤n.par∧n.par≤29 by omega)]
     simp
    ·rw [decide_eq_false h2,decide_eq_false (show¬(-1≤n.par∧n.par≤29) by omega)]
     simp
theorem kid_pos {id par x:Int} (h:kidB id par x=true): -1 < x:=by
 unfold kidB ndB at h
 simp only[Bool.and_eq_true,decide_eq_true_eq] at h
 omega
theorem id_low {low x:Int} (h:idB low x=true):low - 1 < x:=by
 unfold idB at h
 simp only[decide_eq_true_eq] at h
 omega
theorem out_pos {n:Nd} {s:Snt} (h:outB n s=true):0 < s.i:=by
 unfold outB at h
 simp only[Bool.and_eq_true,decide_eq_true_eq] at h
 omega
theorem req_pos {n:Nd} {s:Rq} (h:reqB n s=true):n.old < s.no:=by
 unfold reqB at h
 simp only[Bool.and_eq_true,decide_eq_true_eq] at h
 omega
end Mth
theorem implPlaced (n:Nd) (A:Ads) (w:World) (hl:n.kids.length≤1048600) (ha:IntsAt w A.k n.kids):
 Calls Tryz.prog 31 #[ndv n A] w fun e w'=>e= .returned (.bool (placeI n))∧Below w.heap.size w w':=by
 have HA:=hide ha
 have HD:Hid (placeI n=(ndB n.id&&(decide (n.par= -1)||(ndB n.par&&decide (n.par≠n.id)))&&chk (kidB n.id n.par) ltB n.kids)):=rfl
 have HCB:=hide (fun k h=>chk_bad (kidB n.id n.par) ltB n.kids k h)
 have HCL:=hide (fun k h=>chk_last (kidB n.id n.par) (fun x=>x) (-1) (fun x=>kid_pos) n.kids k h)
 have HLS:=hide (fun k h=>lastI_snoc (fun x:Int=>x) (-1) n.kids k h)
 have HKB:=hide (fun x=>show kidB n.id n.par x=(ndB x&&decide (x≠n.id)&&decide (x≠n.par)) from rfl)
 have HBX:=hide (heap_alloc_new w (.cells (ndc n A) 30))
 generalize placeI n=TT at *
 generalize kidB n.id n.par=KB at *
 obtain⟨id,par,kids,next,pu,out,seen,old,reqs⟩:=n
 obtain⟨ak,ap,ao,as',ar,ck,cp,co,cs,cr⟩:=A
 dsimp only at hl HD HA HCB HCL HLS HKB HBX ⊢
 clear ha
 go_enter Tryz.func31,Tryz.ntmps31
 go_upto_region 1 with fail
 refine wp_at (fun W0 hW0=>?_)
 have hblk:W0.heap[w.heap.size]?=some (.cells (ndc ⟨id,par,kids,next,pu,out,seen,old,reqs⟩ ⟨ak,ap,ao,as',ar,ck,cp,co,cs,cr⟩) 30 (0,0)):=by rw [hW0];exact unhide HBX
 have HL0:Hid (Below w.heap.size w W0):=by rw [hW0];exact below_one w _
 obtain⟨c0,c1,c2,c3,c4,c5,c6,c7,c8⟩:=nine hblk
 clear hW0 HBX hblk
 obtain⟨bb,hbb⟩:∃bb,(!(ndB id&&(decide (par= -1)||(ndB par&&decide (par≠id)))))=bb:=⟨_,rfl⟩
 have HBB:=hide hbb
 clear hbb
 go_cut [27] (fun r wx=>r= .bool bb∧wx=W0)
 case first=>
  cases h1:ndB id
  case' false=>
   have HV:=hide (show bb=true by rw [←unhide HBB];simp[h1])
   have H1:=hide (fun w1=>isNode id false w1 h1)
   clear HBB h1
   go_wp2_with (go_at_call 53;refine(unhide H1 _).mono ?_;rintro e w1 ⟨rfl,rfl⟩)
   go_meet
   case rel=>exact⟨by rw [unhide HV],rfl⟩
  have H1:=hide (fun w1=>isNode id true w1 h1)
  by_cases h2:par= -1
  case' pos=>
   have HV:=hide (show bb=false by rw [←unhide HBB];simp[h1,h2])
   have hb2:(par != -1)=false:=by simp[h2]
   clear HBB h1 h2
   go_wp2_with (go_at_call 53;refine(unhide H1 _).mono ?_;rintro e w1 ⟨rfl,rfl⟩)
   go_meet
   case rel=>exact⟨by rw [unhide HV],rfl⟩
  have hb2:(par != -1)=true:=by simp[h2]
  cases h3:ndB par
  case' false=>
   have HV:=hide (show bb=true by rw [←unhide HBB];simp[h2,h3])
   have H3:=hide (fun w1=>isNode par false w1 h3)
   clear HBB h1 h2 h3
   go_wp2_with (first|(go_at_call_of 53 id;refine(unhide H1 _).mono ?_;rintro e w1 ⟨rfl,rfl⟩)|(go_at_call_of 53 par;refine(unhide H3 _).mono ?_;rintro e w1 ⟨rfl,rfl⟩))
   go_meet
   case rel=>exact⟨by rw [unhide HV],rfl⟩
  have H3:=hide (fun w1=>isNode par true w1 h3)
  by_cases h4:par=id
  case' pos=>
   have HV:=hide (show bb=true by rw [←unhide HBB,decide_eq_false h2,decide_eq_false (show¬(par≠id) from fun h=>h h4)];simp)
   have hb4:(par == id)=true:=by simp[h4]
   subst h4
   clear HBB h1 h2 h3
   go_wp2_with (go_at_call 53;refine(unhide H1 _).mono ?_;rintro e w1 ⟨rfl,rfl⟩)
   go_meet
   case rel=>exact⟨by rw [unhide HV],rfl⟩
  have HV:=hide (show bb=false by rw [←unhide HBB];simp[h1,h3,h4])
  have hb4:(par == id)=false:=by simp[h4]
  clear HBB h1 h2 h3
  go_wp2_with (first|(go_at_call_of 53 id;refine(unhide H1 _).mono ?_;rintro e w1 ⟨rfl,rfl⟩)|(go_at_call_of 53 par;refine(unhide H3 _).mono ?_;rintro e w1 ⟨rfl,rfl⟩))
  go_meet
  case rel=>exact⟨by rw [unhide HV],rfl⟩
 case rest=>
  obtain⟨rfl,rfl⟩:=hcut
  cases hbv:bb
  case' true=>
   have HP:Hid (TT=false):=by
    have h:=unhide HBB
    rw [hbv] at h
    rw [unhide HD]
    generalize (ndB id&&(decide (par= -1)||(ndB par&&decide (par≠id))))=X at *
    cases X
    ·rfl
    ·cases h
   clear HBB HD
   subst hbv
   go_wp2_with fail
   go_ret
   exact⟨ret_bool (unhide HP).symm,unhide HL0⟩
  have HOK:Hid (TT=chk KB ltB kids):=by
   have h:=unhide HBB
   rw [hbv] at h
   rw [unhide HD]
   generalize (ndB id&&(decide (par= -1)||(ndB par&&decide (par≠id))))=X at *
   cases X
   ·cases h
   ·rfl
  clear HBB HD
  subst hbv
  go_wp2_with fail
  go_loop [3,31] (fun lv i=>∃(k:Nat) (y:Int),k≤kids.length∧i= .int .i64 k∧lv= .int .i64 y∧y=lastI (fun x=>x) (-1) (kids.take k)∧chk KB ltB (kids.take k)=true) (fun _ i=>kids.length - (intOf i).toNat)
  case atStart=>exact⟨0,-1,Nat.zero_le _,rfl,rfl,rfl,rfl⟩
  case round=>
   obtain⟨k,y,hk,rfl,rfl,hy,hall⟩:=hrel
   have HALL:=hide hall
   have HY:=hide hy
   clear hall hy
   by_cases hlt:k < kids.length
   case' neg=>
    have hke:k=kids.length:=by omega
    subst hke
    have hnlt:decide ((kids.length:Int) < (kids.length:Int))=false:=by simp
    have HF:Hid (TT=true):=by
     have h:=unhide HALL
     rw [List.take_length] at h
     exact(unhide HOK).trans h
    go_wp2_with fail
    go_ret
    exact⟨ret_bool (unhide HF).symm,unhide HL0⟩
   obtain⟨g,off,rfl,hgw,q0⟩:=IntsAt.one (GR.At.below (unhide HA) (unhide HL0)) k hlt
   have HBAD:Hid (chk KB ltB (kids.take (k+1))=false→TT=false):=fun h=>(unhide HOK).trans (unhide HCB _ h)
   have HNX:Hid (chk KB ltB (kids.take (k+1))=(KB kids[k]&&decide (y < kids[k]))):=by
    have h:=unhide HCL k hlt
    have h2:=unhide HALL
    rw [←unhide HY] at h
    exact h.trans (by rw [show(fun s t:Int=>ltB s t)=ltB from rfl,h2];rfl)
   have HLN:=hide (unhide HLS k hlt)
   have HKX:=hide (unhide HKB kids[k])
   clear HCL HLS HCB HKB
   generalize kids[k]=x at *
   cases h1:ndB x
   case' false=>
    have H1:=hide (fun w1=>isNode x false w1 h1)
    have HV:=hide (unhide HBAD (by rw [unhide HNX,unhide HKX];simp[h1]))
    clear HBAD HNX HKX h1
    go_wp2_with (go_at_call 53;refine(unhide H1 _).mono ?_;rintro e w1 ⟨rfl,rfl⟩)
    go_ret
    exact⟨ret_bool (unhide HV).symm,unhide HL0⟩
   have H1:=hide (fun w1=>isNode x true w1 h1)
   by_cases h2:y < x
   case' neg=>
    have hb2:decide (x≤y)=true:=decide_eq_true (by omega)
    have HV:=hide (unhide HBAD (by rw [unhide HNX,unhide HKX];simp[h2]))
    clear HBAD HNX HKX h1
    go_wp2_with (go_at_call 53;refine(unhide H1 _).mono ?_;rintro e w1 ⟨rfl,rfl⟩)
    go_ret
    exact⟨ret_bool (unhide HV).symm,unhide HL0⟩
   have hb2:decide (x≤y)=false:=decide_eq_false (by omega)
   by_cases h3:x=id
   case' pos=>
    have hb3:(x == id)=true:=by simp[h3]
    have HV:=hide (unhide HBAD (by rw [unhide HNX,unhide HKX];simp[h3]))
    clear HBAD HNX HKX h1 h3
    go_wp2_with (go_at_call 53;refine(unhide H1 _).mono ?_;rintro e w1 ⟨rfl,rfl⟩)
    go_ret
    exact⟨ret_bool (unhide HV).symm,unhide HL0⟩
   have hb3:(x == id)=false:=by simp[h3]
   by_cases h4:x=par
   case' pos=>
    have hb4:(x == par)=true:=by simp[h4]
    have HV:=hide (unhide HBAD (by rw [unhide HNX,unhide HKX];simp[h4]))
    clear HBAD HNX HKX h1 h4
    go_wp2_with (go_at_call 53;refine(unhide H1 _).mono ?_;rintro e w1 ⟨rfl,rfl⟩)
    go_ret
    exact⟨ret_bool (unhide HV).symm,unhide HL0⟩
   have hb4:(x == par)=false:=by simp[h4]
   have HV:=hide (show chk KB ltB (kids.take (k+1))=true by rw [unhide HNX,unhide HKX];simp[h1,h2,h3,h4])
   clear HBAD HNX HKX h1
   go_wp2_with (go_at_call 53;refine(unhide H1 _).mono ?_;rintro e w1 ⟨rfl,rfl⟩)
   go_round
   case rel=>exact⟨k+1,x,by omega,by go_num,rfl,(unhide HLN).symm,unhide HV⟩
   case measure=>simp[intOf];omega
theorem implSeenOne (s:Sn) (b:Option Addr) (c:Nat) (w:World) (hl:s.ids.length≤1048600) (ha:IntsAt w b s.ids):
 Calls Tryz.prog 58 #[.agg #[.int .i64 s.f,.int .i64 s.l,.slice b s.ids.length c]] w fun e w'=>e= .returned (.bool (snB s))∧Below w.heap.size w w':=by
 obtain⟨fr,lo,ids⟩:=s
 dsimp only at hl ha ⊢
 have HA:=hide ha
 have HD:Hid (snB ⟨fr,lo,ids⟩=(smB lo&&decide (ids.length≤40)&&chk (idB lo) ltB ids)):=rfl
 have HCB:=hide (fun k h=>chk_bad (idB lo) ltB ids k h)
 have HCL:=hide (fun k h=>chk_last (idB lo) (fun x=>x) (lo - 1) (fun x=>id_low) ids k h)
 have HLS:=hide (fun k h=>lastI_snoc (fun x:Int=>x) (lo - 1) ids k h)
 have HLB:=hide (fun k (h:chk (idB lo) ltB (ids.take k)=true)=>chk_lastI (key:=fun x=>x) (y0:=lo - 1) (fun x=>id_low) h)
 have HKB:=hide (fun x=>show idB lo x=decide (lo≤x∧x≤1000000000) from rfl)
 generalize snB ⟨fr,lo,ids⟩=TT at *
 generalize idB lo=KB at *
 clear ha
 cases h1:smB lo
 case' false=>
  have HP:Hid (TT=false):=by rw [unhide HD,h1];rfl
  have H1:=hide (fun w1=>isSomeAmount lo false w1 h1)
  clear HD h1
  go_enter Tryz.func58,Tryz.ntmps58
  go_wp2_with (go_at_call 33;refine(unhide H1 _).mono ?_;rintro e w1 ⟨rfl,rfl⟩)
  go_ret
  exact⟨ret_bool (unhide HP).symm,below_one w _⟩
 have H1:=hide (fun w1=>isSomeAmount lo true w1 h1)
 have hlo:1≤lo∧lo≤1000000000:=of_decide_eq_true h1
 obtain⟨hlo1,hlo2⟩:=hlo
 by_cases h2:ids.length≤40
 case' neg=>
  have HP:=hide (show TT=false by rw [unhide HD,decide_eq_false h2];simp)
  have hb2:decide ((40:Int) < ids.length)=true:=decide_eq_true (by omega)
  clear HD h1
  go_enter Tryz.func58,Tryz.ntmps58
  go_wp2_with (go_at_call 33;refine(unhide H1 _).mono ?_;rintro e w1 ⟨rfl,rfl⟩)
  go_ret
  exact⟨ret_bool (unhide HP).symm,below_one w _⟩
 have hb2:decide ((40:Int) < ids.length)=false:=decide_eq_false (by omega)
 have HOK:Hid (TT=chk KB ltB ids):=by rw [unhide HD,h1,decide_eq_true h2];rfl
 clear HD h1
 go_enter Tryz.func58,Tryz.ntmps58
 go_wp2_with (go_at_call 33;refine(unhide H1 _).mono ?_;rintro e w1 ⟨rfl,rfl⟩)
 go_loop [3,22] (fun lv i=>∃(k:Nat) (y:Int),k≤ids.length∧i= .int .i64 k∧lv= .int .i64 y∧y=lastI (fun x=>x) (lo - 1) (ids.take k)∧chk KB ltB (ids.take k)=true) (fun _ i=>ids.length - (intOf i).toNat)
 case atStart=>exact⟨0,lo - 1,Nat.zero_le _,rfl,by go_num,rfl,rfl⟩
 case round=>
  obtain⟨k,y,hk,rfl,rfl,hy,hall⟩:=hrel
  have HALL:=hide hall
  have HY:=hide hy
  have hy0:lo - 1≤y:=by rw [hy];exact unhide HLB k hall
  clear hall hy
  by_cases hlt:k < ids.length
  case' neg=>
   have hke:k=ids.length:=by omega
   subst hke
   have hnlt:decide ((ids.length:Int) < (ids.length:Int))=false:=by simp
   have HF:Hid (TT=true):=by
    have h:=unhide HALL
    rw [List.take_length] at h
    exact(unhide HOK).trans h
   go_wp2_with fail
   go_ret
   exact⟨ret_bool (unhide HF).symm,below_one w _⟩
  obtain⟨g,off,rfl,hgw,q0⟩:=IntsAt.one (GR.At.below (unhide HA) (below_one w (.cells #[.int .i64 fr,.int .i64 lo,.slice b ids.length c] 71))) k hlt
  have HBAD:Hid (chk KB ltB (ids.take (k+1))=false→TT=false):=fun h=>(unhide HOK).trans (unhide HCB _ h)
  have HNX:Hid (chk KB ltB (ids.take (k+1))=(KB ids[k]&&decide (y < ids[k]))):=by
   have h:=unhide HCL k hlt
   have h2:=unhide HALL
   rw [←unhide HY] at h
   exact h.trans (by rw [show(fun s t:Int=>ltB s t)=ltB from rfl,h2];rfl)
  have HLN:=hide (unhide HLS k hlt)
  have HKX:=hide (unhide HKB ids[k])
  clear HCL HLS HCB HKB HLB
  generalize ids[k]=x at *
  by_cases h2:y < x
  case' neg=>
   have hb3:decide (x≤y)=true:=decide_eq_true (by omega)
   have HV:=hide (unhide HBAD (by rw [unhide HNX,unhide HKX];rw [decide_eq_false h2];simp))
   clear HBAD HNX HKX
   go_wp2_with (fail)
   go_ret
   exact⟨ret_bool (unhide HV).symm,below_one w _⟩
  have hb3:decide (x≤y)=false:=decide_eq_false (by omega)
  cases h3:amB x
  case' false=>
   have H3:=hide (fun w1=>implAmB x false w1 h3)
   have h4:¬(0≤x∧x≤1000000000):=of_decide_eq_false h3
   have HV:=hide (unhide HBAD (by rw [unhide HNX,unhide HKX];rw [decide_eq_false (show¬(lo≤x∧x≤1000000000) by omega)];rfl))
   clear HBAD HNX HKX h3 h4
   go_wp2_with (go_at_call 59;refine(unhide H3 _).mono ?_;rintro e w1 ⟨rfl,rfl⟩)
   go_ret
   exact⟨ret_bool (unhide HV).symm,below_one w _⟩
  have H3:=hide (fun w1=>implAmB x true w1 h3)
  have h4:0≤x∧x≤1000000000:=of_decide_eq_true h3
  have HV:=hide (show chk KB ltB (ids.take (k+1))=true by rw [unhide HNX,unhide HKX,decide_eq_true (show lo≤x∧x≤1000000000 by omega),decide_eq_true h2];rfl)
  clear HBAD HNX HKX h3 h4
  go_wp2_with (go_at_call 59;refine(unhide H3 _).mono ?_;rintro e w1 ⟨rfl,rfl⟩)
  go_round
  case rel=>exact⟨k+1,x,by omega,by go_num,rfl,(unhide HLN).symm,unhide HV⟩
  case measure=>simp[intOf];omega
end Go.Proofs.YtdlokncalhopoaaGreat
