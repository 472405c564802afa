/-
  NdI2, NdI3, NdBack, NdReqAt, NdIns.
-/
import Derived.Test.YtppmcficiphgdaaGreatDoorQa14
import Derived.Test.YtppmcficiphgdaaGreatDoorQa4
import Derived.Test.YtppmcficiphgdaaGreatDoorQaZ3
import Derived.Test.YtppmcficiphgdaaGreatDoorQa5
import Derived.Test.YtppmcficiphgdaaGreatDoorQa1
import Derived.Laws.CopyRow
import Derived.Lib.Overlaps
import Derived.Lib.AppendZerosOnto
import Derived.Laws.Externs
import Derived.Shelf.Spec.SlicesInsert
namespace Go.Proofs.YtppmcficiphgdaaGreatDoor
set_option maxHeartbeats 4000000
set_option maxRecDepth 100000
open Go.RowKit
open Mth
namespace Mth
def upTo (n:Nat):List Int:=(List.range n).map Int.ofNat
theorem upTo_asc (n:Nat):(upTo n).Pairwise (· < ·):=by
 unfold upTo;rw [List.pairwise_map];exact List.pairwise_lt_range.imp (fun {a b} h=>by show(a:Int) < (b:Int);omega)
theorem upTo_mem (n:Nat) (x:Int):x∈upTo n↔0≤x∧x < n:=by
 unfold upTo;rw [List.mem_map];constructor
 ·rintro⟨a,ha,rfl⟩;have:=List.mem_range.1 ha;show 0≤(a:Int)∧(a:Int) < n
  omega
 ·intro h;exact⟨x.toNat,List.mem_range.2 (by omega),by show((x.toNat:Nat):Int)=x;omega⟩
theorem kids_few {id par:Int} {l:List Int} (h:chk (kidB id par) ltB l=true):l.length≤30:=by
 obtain⟨h1,h2⟩:=(chk_iff (r:=ltB) ltB_trans).1 h
 have h3:=asc_le (upTo 30) l (h2.imp (fun {a b} h=>of_decide_eq_true h)) (upTo_asc 30) (fun x hx=>by
  have h4:=h1 x hx
  unfold kidB ndB at h4
  simp only[Bool.and_eq_true,decide_eq_true_eq] at h4
  rw [upTo_mem]
  omega)
 simpa [upTo] using h3
def placeI (n:Nd):Bool:=ndB n.id&&(decide (n.par= -1)||(ndB n.par&&decide (n.par≠n.id)))&&chk (kidB n.id n.par) ltB n.kids
theorem place_same (n:Nd):placeI n=placeB n:=by
 unfold placeI placeB;cases hc:chk (kidB n.id n.par) ltB n.kids
 ·simp
 ·rw [decide_eq_true (kids_few hc)];cases hi:ndB n.id
  ·simp
  ·have h0:0≤n.id∧n.id≤29:=of_decide_eq_true hi;by_cases h1:n.par= -1
   ·have h2:n.par≠n.id:=by omega
    rw [decide_eq_true h1,decide_eq_true h2,decide_eq_true (show -1≤n.par∧n.par≤29 by omega)];rfl
   ·rw [decide_eq_false h1];unfold ndB;by_cases h2:0≤n.par∧n.par≤29
    ·rw [decide_eq_true h2,decide_eq_true (show -1≤n.par∧n.par≤29 by omega)];simp
    ·rw [decide_eq_false h2,decide_eq_false (show¬(-1≤n.par∧n.par≤29) by omega)];simp
theorem kid_pos {id par x:Int} (h:kidB id par x=true): -1 < x:=by
 unfold kidB ndB at h;exact Za98
theorem id_low {low x:Int} (h:idB low x=true):low - 1 < x:=by
 unfold idB at h;simp only[decide_eq_true_eq] at h;omega
theorem out_pos {n:Nd} {s:Snt} (h:outB n s=true):0 < s.i:=by
 unfold outB at h;exact Za98
theorem req_pos {n:Nd} {s:Rq} (h:reqB n s=true):n.old < s.no:=by
 unfold reqB at h;exact Za98
end Mth
theorem implPlaced (n:Nd) (A:Ads) (w:World) (hl:n.kids.length≤1048600) (ha:IntsAt w A.k n.kids):
 Calls Tryz.prog 98 #[ndv n A] w fun e w'=>e= .returned (.bool (placeI n))∧Below w.heap.size w w':=by
 have HA:=hide ha;have HD:Hid (placeI n=(ndB n.id&&(decide (n.par= -1)||(ndB n.par&&decide (n.par≠n.id)))&&chk (kidB n.id n.par) ltB n.kids)):=rfl;have HCB:=hide (fun k h=>chk_bad (kidB n.id n.par) ltB n.kids k h);have HCL:=hide (fun k h=>chk_last (kidB n.id n.par) (fun x=>x) (-1) (fun x=>kid_pos) n.kids k h);have HLS:=hide (fun k h=>lastI_snoc (fun x:Int=>x) (-1) n.kids k h);have HKB:=hide (fun x=>show kidB n.id n.par x=(ndB x&&decide (x≠n.id)&&decide (x≠n.par)) from rfl);have HBX:=hide (heap_alloc_new w (.cells (ndc n A) 30));generalize placeI n=TT at *;generalize kidB n.id n.par=KB at *;open Sa120 in exact Ya26
theorem implSeenOne (s:Sn) (b:Option Addr) (c:Nat) (w:World) (hl:s.ids.length≤1048600) (ha:IntsAt w b s.ids):
 Calls Tryz.prog 155 #[.agg #[.int .i64 s.f,.int .i64 s.l,.slice b s.ids.length c]] w fun e w'=>e= .returned (.bool (snB s))∧Below w.heap.size w w':=by
 obtain⟨fr,lo,ids⟩:=s;dsimp only at hl ha ⊢;have HA:=hide ha;have HD:Hid (snB ⟨fr,lo,ids⟩=(smB lo&&decide (ids.length≤40)&&chk (idB lo) ltB ids)):=rfl;have HCB:=hide (fun k h=>chk_bad (idB lo) ltB ids k h);have HCL:=hide (fun k h=>chk_last (idB lo) (fun x=>x) (lo - 1) (fun x=>id_low) ids k h);have HLS:=hide (fun k h=>lastI_snoc (fun x:Int=>x) (lo - 1) ids k h);have HLB:=hide (fun k (h:chk (idB lo) ltB (ids.take k)=true)=>chk_lastI (key:=fun x=>x) (y0:=lo - 1) (fun x=>id_low) h);have HKB:=hide (fun x=>show idB lo x=decide (lo≤x∧x≤1000000000) from rfl);generalize snB ⟨fr,lo,ids⟩=TT at *;generalize idB lo=KB at *;clear ha;cases h1:smB lo
 case' false=>
  have HP:Hid (TT=false):=by rw [unhide HD,h1];rfl
  have H1:=hide (fun w1=>isSomeAmount lo false w1 h1)
  clear HD h1
  go_enter Tryz.func155,Tryz.ntmps155
  go_wp2_with (go_at_call 100;refine(H1 _).mono ?_;rintro e w1 ⟨rfl,rfl⟩)
  go_ret
  exact⟨ret_bool HP.symm,below_one w _⟩
 have H1:=hide (fun w1=>isSomeAmount lo true w1 h1);have hlo:1≤lo∧lo≤1000000000:=of_decide_eq_true h1;obtain⟨hlo1,hlo2⟩:=hlo;by_cases h2:ids.length≤40
 case' neg=>
  have HP:=hide (show TT=false by rw [unhide HD,decide_eq_false h2];simp)
  have hb2:decide ((40:Int) < ids.length)=true:=decide_eq_true (by omega)
  clear HD h1
  go_enter Tryz.func155,Tryz.ntmps155
  go_wp2_with (go_at_call 100;refine(H1 _).mono ?_;rintro e w1 ⟨rfl,rfl⟩)
  go_ret
  exact⟨ret_bool HP.symm,below_one w _⟩
 have hb2:decide ((40:Int) < ids.length)=false:=decide_eq_false (by omega);have HOK:Hid (TT=chk KB ltB ids):=by rw [unhide HD,h1,decide_eq_true h2];rfl
 clear HD h1;go_enter Tryz.func155,Tryz.ntmps155
 go_wp2_with (go_at_call 100;refine(H1 _).mono ?_;rintro e w1 ⟨rfl,rfl⟩)
 go_loop [3,22] (fun lv i=>∃(k:Nat) (y:Int),k≤ids.length∧i= .int .i64 k∧lv= .int .i64 y∧y=lastI (fun x=>x) (lo - 1) (ids.take k)∧chk KB ltB (ids.take k)=true) (fun _ i=>ids.length - (intOf i).toNat)
 case atStart=>exact⟨0,lo - 1,Nat.zero_le _,rfl,by go_num,rfl,rfl⟩
 case round=>
  obtain⟨k,y,hk,rfl,rfl,hy,hall⟩:=hrel;have HALL:=hide hall;have HY:=hide hy;have hy0:lo - 1≤y:=by rw [hy];exact HLB k hall
  clear hall hy;by_cases hlt:k < ids.length
  case' neg=>
   have hke:k=ids.length:=by omega
   subst hke
   have hnlt:decide ((ids.length:Int) < (ids.length:Int))=false:=by simp
   have HF:Hid (TT=true):=by
    exact Za29
   go_wp2_with fail
   go_ret
   exact⟨ret_bool HF.symm,below_one w _⟩
  obtain⟨g,off,rfl,hgw,q0⟩:=IntsAt.one (GR.At.below HA (below_one w (.cells #[.int .i64 fr,.int .i64 lo,.slice b ids.length c] 81))) k hlt;have HBAD:Hid (chk KB ltB (ids.take (k+1))=false→TT=false):=fun h=>HOK.trans (HCB _ h)
  have HNX:Hid (chk KB ltB (ids.take (k+1))=(KB ids[k]&&decide (y < ids[k]))):=by
   exact Za68
  have HLN:=hide (HLS k hlt);have HKX:=hide (HKB ids[k]);clear HCL HLS HCB HKB HLB;generalize ids[k]=x at *;by_cases h2:y < x
  case' neg=>
   have hb3:decide (x≤y)=true:=decide_eq_true (by omega)
   have HV:=hide (HBAD (by rw [unhide HNX,unhide HKX];rw [decide_eq_false h2];simp))
   clear HBAD HNX HKX
   go_wp2_with (fail)
   go_ret
   exact⟨ret_bool HV.symm,below_one w _⟩
  have hb3:decide (x≤y)=false:=decide_eq_false (by omega);cases h3:amB x
  case' false=>
   have H3:=hide (fun w1=>implAmB x false w1 h3)
   have h4:¬(0≤x∧x≤1000000000):=of_decide_eq_false h3
   have HV:=hide (HBAD (by rw [unhide HNX,unhide HKX];rw [decide_eq_false (show¬(lo≤x∧x≤1000000000) by omega)];rfl))
   clear HBAD HNX HKX h3 h4
   go_wp2_with (go_at_call 156;refine(H3 _).mono ?_;rintro e w1 ⟨rfl,rfl⟩)
   go_ret
   exact⟨ret_bool HV.symm,below_one w _⟩
  have H3:=hide (fun w1=>implAmB x true w1 h3);have h4:0≤x∧x≤1000000000:=of_decide_eq_true h3;have HV:=hide (show chk KB ltB (ids.take (k+1))=true by rw [unhide HNX,unhide HKX,decide_eq_true (show lo≤x∧x≤1000000000 by omega),decide_eq_true h2];rfl);clear HBAD HNX HKX h3 h4;go_wp2_with (go_at_call 156;refine(H3 _).mono ?_;rintro e w1 ⟨rfl,rfl⟩)
  exact Za95
set_option maxHeartbeats 4000000
theorem implOutOk (n:Nd) (A:Ads) (w:World) (hz:NdSz n 1048600) (hp:placeB n=true) (ha:NodeAt w A n):
 Calls Tryz.prog 101 #[ndv n A] w fun e w'=>e= .returned (.bool (outsB n))∧Below w.heap.size w w':=by
 have HA:=hide ha;have HD:Hid (outsB n=(decide (n.out.length≤40)&&chk (outB n) (fun s t=>ltB s.i t.i) n.out)):=rfl;have HCB:=hide (fun k h=>chk_bad (outB n) (fun s t=>ltB s.i t.i) n.out k h);have HCL:=hide (fun k h=>chk_last (outB n) (fun s=>s.i) 0 (fun x=>out_pos) n.out k h);have HLS:=hide (fun k h=>lastI_snoc (fun s:Snt=>s.i) 0 n.out k h);have HLB:=hide (fun k (h:chk (outB n) (fun s t=>ltB s.i t.i) (n.out.take k)=true)=>chk_lastI (key:=fun s=>s.i) (y0:=0) (fun x=>out_pos) h);have HKB:=hide (fun s=>show outB n s=(decide (1≤s.i∧s.i≤n.next - 1)&&nearB n s.t&&keyOk s.k.data.toList&&smB s.n) from rfl)
 have HNR:Hid (∀x w1,Below w.heap.size w w1→Calls Tryz.prog 152 #[ndv n A,.int .i64 x] w1 fun e w'=>e= .returned (.bool (nearB n x))∧Below w1.heap.size w1 w'):=fun x w1 hb=>by
  have h:=implNear n A x w1 hz.k (ha.below hb).k
  rw [near_same hp] at h
  exact h
 have hlo:=hz.o;have HBX:=hide (heap_alloc_new w (.cells (ndc n A) 30));generalize outsB n=TT at *;generalize outB n=KB at *;generalize nearB n=NN at *;clear ha hz hp;open Sa122 in exact Ya26
theorem implReqsOk (n:Nd) (A:Ads) (w:World) (hz:NdSz n 1048600) (ha:NodeAt w A n):
 Calls Tryz.prog 103 #[ndv n A] w fun e w'=>e= .returned (.bool (reqsB n))∧Below w.heap.size w w':=by
 have HA:=hide ha;have HD:Hid (reqsB n=(amB n.old&&decide (n.reqs.length≤30)&&chk (reqB n) (fun s t=>ltB s.no t.no) n.reqs)):=rfl;have HCB:=hide (fun k h=>chk_bad (reqB n) (fun s t=>ltB s.no t.no) n.reqs k h);have HCL:=hide (fun k h=>chk_last (reqB n) (fun s=>s.no) n.old (fun x=>req_pos) n.reqs k h);have HLS:=hide (fun k h=>lastI_snoc (fun s:Rq=>s.no) n.old n.reqs k h);have HLB:=hide (fun k (h:chk (reqB n) (fun s t=>ltB s.no t.no) (n.reqs.take k)=true)=>chk_lastI (key:=fun s=>s.no) (y0:=n.old) (fun x=>req_pos) h);have HKB:=hide (fun s=>show reqB n s=(decide (n.old+1≤s.no∧s.no≤1000000000)&&keyOk s.k.data.toList&&smB s.n&&decide (0≤s.s∧s.s≤2)) from rfl);have hlo:=hz.r;have HBX:=hide (heap_alloc_new w (.cells (ndc n A) 30));generalize reqsB n=TT at *;generalize reqB n=KB at *;clear ha hz;open Sa121 in exact Ya26
set_option maxHeartbeats 4000000
theorem nearImpl (n:Nd) (A:Ads) (x:Int) (w:World) (hp:placeB n=true) (hl:n.kids.length≤1048600) (ha:NodeAt w A n):
 Calls Tryz.prog 152 #[ndv n A,.int .i64 x] w fun e w'=>e= .returned (.bool (nearB n x))∧Below w.heap.size w w':=by
 have h:=implNear n A x w hl ha.k;rw [near_same hp] at h;exact h
def backN (n:Nd) (o:Op5):Nd×List Mg×Int:=if n.par= -1 then(n,[],1) else((giveN n n.par o.k o.n).1,(giveN n n.par o.k o.n).2.1,if (giveN n n.par o.k o.n).2.2=true then 0 else 1)
theorem wkBack (w0 w:World) (wb:Nat) (n:Nd) (A:Ads) (G:Blks) (c:Nat→Nat) (v:Value) (L:List Mg) (o:Op5) (E:Nat→Addr) (hok:ndOk n=true) (hkey:keyOk o.k.data.toList=true) (ha1:1≤o.n) (ha2:o.n≤1000000000) (hL:L.length≤2097100) (h:WK w0 w wb n A G c v L) (he:Errs w0 E):
 Calls Tryz.prog 110 #[.pointer (some ⟨wb,0,none⟩),opw o] w fun e w'=>e= .returned (.int .i64 (backN n o).2.2)∧∃A' G' c' v',WK w0 w' wb (backN n o).1 A' G' c' v' (L++(backN n o).2.1):=by
 have HPY:=hide (fun W c v (hW:WK w0 W wb n A G c v L)=>wkPay w0 W wb n A G c v L n.par o.k o.n E hok hkey ha1 ha2 hL hW he);have hwl:=obj_lt h.blk;have hne:wb≠w.heap.size:=by omega
 clear hok hkey ha1 ha2 he;by_cases hpar:n.par= -1
 ·have hR:backN n o=(n,[],1):=if_pos hpar;rw [hR];obtain⟨K,no,k,nn,⟨mK,mF,mT,mI,mL,mk,mN⟩⟩:=o;open Sa144 in exact Ya34
 ·have hR:backN n o=((giveN n n.par o.k o.n).1,(giveN n n.par o.k o.n).2.1,if (giveN n n.par o.k o.n).2.2=true then 0 else 1):=if_neg hpar;rw [hR];obtain⟨K,no,k,nn,⟨mK,mF,mT,mI,mL,mk,mN⟩⟩:=o;dsimp only at HPY ⊢;open Sa43 in exact Ya12
theorem wkAddr (w0 w:World) (wb:Nat) (n:Nd) (A:Ads) (G:Blks) (c:Nat→Nat) (v:Value) (L:List Mg) (m:Mg) (hp:placeB n=true) (hz:n.kids.length≤1048600) (h:WK w0 w wb n A G c v L):
 Calls Tryz.prog 105 #[.pointer (some ⟨wb,0,none⟩),mgv m] w fun e w'=>e= .returned (.bool (decide (m.T=n.id)&&nearB n m.F))∧Below w.heap.size w w':=by
 obtain⟨mK,mF,mT,mI,mL,mk,mN⟩:=m;have HNB:=hide (fun w1 (ha:NodeAt w1 A n)=>nearImpl n A mF w1 hp hz ha);dsimp only;generalize nearB n mF=nb at *;open Sa132 in exact Ya30
theorem wkTick (w0 w:World) (wb:Nat) (n:Nd) (A:Ads) (G:Blks) (c:Nat→Nat) (v:Value) (L:List Mg) (o:Op5) (hz:NdSz n 1048576) (hL:L.length≤1048000) (h:WK w0 w wb n A G c v L):
 Calls Tryz.prog 111 #[.pointer (some ⟨wb,0,none⟩),opw o] w fun e w'=>e= .returned (.int .i64 0)∧∃c' v',WK w0 w' wb n A G c' v' (L++n.out.map (payM n)):=by
 have HPY:=hide (fun s W (ha:SentAt W A.o n.out)=>implPayOf n A s W (by have:=hz.o;omega) ha);have HSY:=hide (fun W c v (k:Nat) (hk:k≤n.out.length) m (hm:m.k.size≤1048600) (hW:WK w0 W wb n A G c v (L++(n.out.take k).map (payM n)))=>wkSay w0 W wb n A G c v _ m hm (by have:=hz.o;rw [List.length_append,List.length_map,List.length_take];omega) hW);have HKK:Hid (∀s∈n.out,(payM n s).k.size≤1048600):=fun s hs=>Nat.le_trans (hz.ok s hs) (by omega)
 have hlo:=hz.o;obtain⟨K,no,k,nn,⟨mK,mF,mT,mI,mL,mk,mN⟩⟩:=o;open Sa143 in exact Ya34
set_option maxHeartbeats 4000000
abbrev rqv (q:Rq):Value:= .agg #[.int .i64 q.no,.string q.k,.int .i64 q.n,.int .i64 q.s]
theorem cmpReq (q:Rq) (no:Int) (w:World) (h0:0≤q.no) (h1:q.no≤1000000000) (h2:0≤no) (h3:no≤1000000000):
 Calls Tryz.prog 187 #[rqv q,.int .i64 no] w fun e w'=>e= .returned (.int .i64 (q.no - no))∧Below w.heap.size w w':=by
 obtain⟨qno,qk,qn,qs⟩:=q;dsimp only at h0 h1;go_enter Tryz.func187,Tryz.ntmps187
 go_wp2_with fail;go_ret;exact⟨rfl,below_one w _⟩
theorem bsReq (a:Option Addr) (cap:Nat) (l:List Rq) (no:Int) (w:World) (hl:l.length≤1000) (ha:ReqAt w a l) (hp:l.Pairwise (fun s t=>s.no < t.no)) (hb:∀q∈l,0≤q.no∧q.no≤1000000000) (h0:0≤no) (h1:no≤1000000000):
 Calls Tryz.prog 186 #[.slice a l.length cap,.int .i64 no,.func (.func 187) #[] #[]] w fun e w'=>e= .returned (.tuple #[.int .i64 (reqI l no:Nat),.bool (reqF l no)])∧Below w.heap.size w w':=by
 have HC:=hide (fun q w1 (hq:q∈l)=>cmpReq q no w1 (hb q hq).1 (hb q hq).2 h0 h1);have HLO:=hide (reqI_below l no);have HHI:=hide (reqI_above (no:=no) hp);have HLE:=hide (reqI_le l no);have HF:=hide (reqF_iff l no);have HA:=hide ha;clear ha hp hb;generalize reqF l no=RF at *;generalize reqI l no=R at *;go_enter Tryz.func186,Tryz.ntmps186
 go_wp2_with fail;go_loopw [9,10] (fun i j wr=>∃p q:Nat,p≤R∧R≤q∧q≤l.length∧i= .int .i64 p∧j= .int .i64 q∧Below w.heap.size w wr) (fun i j _=>(intOf j).toNat - (intOf i).toNat)
 case atStart=>exact⟨0,l.length,Nat.zero_le _,HLE,Nat.le_refl _,rfl,rfl,Below.refl _ _⟩
 case round=>
  obtain⟨p,q,h2,h3,h4,rfl,rfl,hbw⟩:=hrel;have HB:=hide hbw;clear hbw;by_cases hlt:p < q
  ·have hltI:(p:Int) < (q:Int):=by omega
   go_upto_region 5 with fail;obtain⟨m,hm⟩:∃m:Nat,((p:Int)+q) / 2=m:=⟨(p+q) / 2,by omega⟩;have hmp:p≤m:=by omega
   have hmq:m < q:=by omega
   rw [hm];clear hm hltI;have hml:m < l.length:=by omega
   obtain⟨g,off,e0,hg,q0,q1,q2,q3⟩:=ReqAt.four (GR.At.below HA HB) m hml;have HCM:=hide (fun w1=>HC l[m] w1 (List.getElem_mem hml));have HLM:=hide (HLO m hml);have HHM:=hide (HHI m hml);subst e0;generalize l[m]=lm at *;obtain⟨ln,lk,lx,ls⟩:=lm;dsimp only at q0 q1 q2 q3 HCM HLM HHM;open Sa335 in exact Ya99
  ·have hpq:p=R:=by omega
   subst hpq;have hnlt:¬((p:Int) < (q:Int)):=by omega
   by_cases hpl:p < l.length
   ·have hplI:(p:Int) < (l.length:Int):=by omega
    obtain⟨g,off,e0,hg,q0,q1,q2,q3⟩:=ReqAt.four (GR.At.below HA HB) p hpl;have HCM:=hide (fun w1=>HC l[p] w1 (List.getElem_mem hpl))
    have HFP:Hid (RF=decide (l[p].no=no)):=by
     show RF=_
     rw [Bool.eq_iff_iff,unhide HF,decide_eq_true_iff];exact⟨fun⟨_,h⟩=>h,fun h=>⟨hpl,h⟩⟩
    subst e0;clear HF HC HLO HHI;generalize l[p]=lm at *;obtain⟨ln,lk,lx,ls⟩:=lm;dsimp only at q0 q1 q2 q3 HCM HFP;open Sa334 in exact Ya99
   ·have hplI:¬((p:Int) < (l.length:Int)):=by omega
    have HFP:Hid (RF=false):=by
     show RF=_
     rw [Bool.eq_false_iff];intro h;exact hpl (HF.1 h).1
    clear HF HC HLO HHI;go_wp2_with fail;go_ret2
    exact⟨by rw [unhide HFP];rfl,HB⟩
theorem wkReqAt (w0 w:World) (wb:Nat) (n:Nd) (A:Ads) (G:Blks) (c:Nat→Nat) (v:Value) (L:List Mg) (no:Int) (hok:reqsB n=true) (h0:0≤no) (h1:no≤1000000000) (h:WK w0 w wb n A G c v L):
 Calls Tryz.prog 160 #[.pointer (some ⟨wb,0,none⟩),.int .i64 no] w fun e w'=>e= .returned (.tuple #[.int .i64 (reqI n.reqs no:Nat),.bool (reqF n.reqs no)])∧Below w.heap.size w w':=by
 obtain⟨r1,r2,r3,r4,r5⟩:=reqs_asc hok;have HBS:=hide (fun w1 (ha:ReqAt w1 A.r n.reqs)=>bsReq A.r A.cr n.reqs no w1 (by omega) ha r1 (fun q hq=>by have:=reqB_parts (r3 q hq);omega) h0 h1);have HA:=hide h.no.at.r;obtain⟨c0,c1,c2,c3,c4,c5,c6,c7,c8,c9⟩:=tenC h.blk;clear h r1 r3 hok;generalize reqF n.reqs no=RF at *;generalize reqI n.reqs no=R at *;go_enter Tryz.func160,Tryz.ntmps160
 go_wp2_with fail;refine(HBS w HA).mono ?_;rintro e w1 ⟨rfl,hb1⟩;have HB:=hide hb1;clear hb1;go_wp2_with fail;go_ret2
 exact⟨rfl,HB⟩
set_option maxHeartbeats 4000000
theorem run_copy_rowN {P:Program} (w:World) (dT sT ty elem:TypeId) (sz:Nat) (g o dLen dCap:Nat) (a:Addr) (sLen sCap:Nat) (cur:Array Value) (t:TypeId) (cs:List Value)
 (hu:P.underlying dT=some (.slice elem)) (hs:(P.info? elem).map (·.size)=some sz)
 (hg:w.heap[g]?=some (.cells cur t (0,0))) (hn:cs.length=Nat.min sLen dLen*sz)
 (hsrc:∀j v,cs[j]?=some v→w.cell? (a.add j)=some v) (hfit:o+cs.length≤cur.size) (h1:∀v∈cs,v.oneCell'=true):
 (Builtin.copy_ #[dT,sT] ty #[.slice (some ⟨g,o,none⟩) dLen dCap,.slice (some a) sLen sCap]).run P w=
  .ok (goInt (Nat.min sLen dLen)) (w.setRow g (cur.toList.take o++cs++cur.toList.drop (o+cs.length)).toArray):=by
 have hl:=run_loadCells_list (P:=P) w a cs hsrc;have hst:=run_storeCells_at P g o t cs 0 cur w hg (by simpa using hfit) h1;cases hq:P.info? elem with
 |none=>simp[hq] at hs
 |some i=>
  have hi:i.size=sz:=by simpa [hq] using hs
  rw [hn] at hl
  simp[Builtin.copy_,run_underlying hu,Builtin.lenOf,Builtin.firstCells,sizeOf,typeInfo,hq,hi,hl,hst]
theorem infoRq:(Tryz.prog.info? 49).map (fun i=>(i.zero,i.size,i.bytes))=some (some (.agg #[.int .i64 0,.string ByteArray.empty,.int .i64 0,.int .i64 0]),4,40):=by kernel_rfl
theorem sizeRq:(Tryz.prog.info? 49).map (·.size)=some 4:=by kernel_rfl
theorem encRq_one (q:Rq):∀u∈encRq q,u.oneCell'=true:=by
 intro u hu;simp only[encRq,List.mem_cons,List.not_mem_nil,or_false] at hu;rcases hu with rfl|rfl|rfl|rfl<;>rfl
theorem flatRq_one (l:List Rq):∀u∈GR.flat encRq l,u.oneCell'=true:=by
 intro u hu;unfold GR.flat at hu;obtain⟨q,_,hq⟩:=List.mem_flatMap.1 hu;exact encRq_one q u hq
def GivesQ (w:World) (B:Nat) (v:Value) (l:List Rq) (e:Ending) (w':World):Prop:=
 ∃a cp,e= .returned (.slice a l.length cp)∧w'.ownsRow B 49 4 (.slice a l.length cp) l.length (GR.flat encRq l)∧w.grownBy w' v.ownBlock∧∀x,(Value.slice a l.length cp).ownBlock=some x→v.ownBlock=some x∨w.heap.size≤x
theorem insReq_end (B:Nat) (a:Option Addr) (cap:Nat) (l:List Rq) (q:Rq) (vb:Nat) (w:World) (hl:l.length≤1000) (hB:B≤w.heap.size) (ho:w.ownsRow B 49 4 (.slice a l.length cap) l.length (GR.flat encRq l)) (hv:w.heap[vb]?=some (.cells #[.int .i64 q.no,.string q.k,.int .i64 q.n,.int .i64 q.s] 49 (0,0))):
 Calls Tryz.prog 188 #[.slice a l.length cap,.int .i64 l.length,.slice (some ⟨vb,0,none⟩) 1 1] w (GivesQ w B (.slice a l.length cap) (l++[q])):=by
 obtain⟨i0,hi,hz0,hz1,hz2⟩:=info_parts infoRq;obtain⟨v',w',hr,h2,h3,h4⟩:=run_append_where w B 28 28 49 i0 _ 4 40 Tryz.underlying28 hi hz0 hz1 hz2 rfl (by decide) (.slice a l.length cap) l.length (GR.flat encRq l) ho ⟨vb,0,none⟩ 1 1 (encRq q) rfl (World.news_of_block hv) (encRq_one q) (by unfold maxLen;omega) (by omega) hB;obtain⟨a2,c2,he,_⟩:=GR.own_at (enc:=encRq) (sz:=4) (l:=l++[q]) encRq_length (by rw [List.length_append,flat_snoc];exact h2);rw [List.length_append] at he;have he2:v'= .slice a2 (l.length+1) c2:=he;subst he2
 have hle:l.length≤cap∨(a=none∧l.length=0∧cap=0):=by
  rcases ho.2 with⟨hx,hy⟩|⟨g,cp,cur,hx,_,_,hc,_⟩
  ·simp only[Value.slice.injEq] at hx;exact .inr ⟨hx.1,hy,hx.2.2⟩
  ·simp only[Value.slice.injEq] at hx;exact .inl (by omega)
 have hcap:l.length≤cap:=by rcases hle with h|h<;>omega
 have hcm:cap≤9223372036854775807:=by
  rcases ho.2 with⟨hx,hy⟩|⟨g,cp,cur,hx,_,_,_,hc,_⟩
  ·simp only[Value.slice.injEq] at hx;omega
  ·simp only[Value.slice.injEq] at hx;unfold maxLen at hc;omega
 have H:=hide (show GivesQ w B (.slice a l.length cap) (l++[q]) (.returned (.slice a2 (l.length+1) c2)) w' from⟨a2,c2,by rw [List.length_append];rfl,by rw [List.length_append,flat_snoc];exact h2,h3,by rw [List.length_append];exact h4⟩);have hq:((l.length:Int) == (l.length:Int))=true:=by simp
 clear h2 h3 h4 ho hv hi hz0 hz1 hz2 hle he;cases a with
 |none=>
  go_enter Tryz.func188,Tryz.ntmps188
  go_wp2_with (at_builtin;refine Lib.wpList_append_run _ rfl _ _ _ _ rfl _ _ rfl rfl _ _ hr ?_)
  go_ret
  exact H
 |some ad=>
  go_enter Tryz.func188,Tryz.ntmps188
  go_wp2_with (at_builtin;refine Lib.wpList_append_run _ rfl _ _ _ _ rfl _ _ rfl rfl _ _ hr ?_)
  all_goals
   try go_wp2_with (at_builtin;refine Lib.wpList_append_run _ rfl _ _ _ _ rfl _ _ rfl rfl _ _ hr ?_)
   go_ret
   exact H
theorem flatQ_len (l:List Rq):(GR.flat encRq l).length=l.length*4:=GR.flat_length encRq 4 encRq_length l
theorem flatQ_cut (l:List Rq) (i:Nat) (hi:i≤l.length):(GR.flat encRq l).take (i*4)=GR.flat encRq (l.take i)∧(GR.flat encRq l).drop (i*4)=GR.flat encRq (l.drop i):=by
 have e:GR.flat encRq l=GR.flat encRq (l.take i)++GR.flat encRq (l.drop i):=by rw [←GR.flat_append,List.take_append_drop]
 have hlen:(GR.flat encRq (l.take i)).length=i*4:=by rw [flatQ_len,List.length_take,Nat.min_eq_left hi]
 rw [e,←hlen,List.take_left,List.drop_left];exact⟨rfl,rfl⟩
def row1 (cur:List Value) (l:List Rq) (i:Nat):List Value:=cur.take ((i+1)*4)++GR.flat encRq (l.drop i)++cur.drop ((i+1)*4+(l.length - i)*4)
def row2 (cur:List Value) (l:List Rq) (i:Nat) (q:Rq):List Value:=(row1 cur l i).take (i*4)++encRq q++(row1 cur l i).drop (i*4+4)
theorem row1_len (cur:List Value) (l:List Rq) (i:Nat) (hi:i < l.length) (hc:(l.length+1)*4≤cur.length):(row1 cur l i).length=cur.length:=by
 unfold row1;exact Za96
theorem row2_len (cur:List Value) (l:List Rq) (i:Nat) (q:Rq) (hi:i < l.length) (hc:(l.length+1)*4≤cur.length):(row2 cur l i q).length=cur.length:=by
 have h1:=row1_len cur l i hi hc;unfold row2;exact Za103
theorem row2_take (cur:List Value) (l:List Rq) (i:Nat) (q:Rq) (hi:i < l.length) (hc:(l.length+1)*4≤cur.length) (ht:cur.take (l.length*4)=GR.flat encRq l):(row2 cur l i q).take ((l.length+1)*4)=GR.flat encRq (l.take i++q::l.drop i):=by
 have e1:(row1 cur l i).take (i*4)=GR.flat encRq (l.take i):=by
  unfold row1;rw [List.append_assoc,List.take_append_of_le_length (by rw [List.length_take];omega),List.take_take,Nat.min_eq_left (by omega),←(flatQ_cut l i (by omega)).1,←ht,List.take_take,Nat.min_eq_left (by omega)]
 have hl1:(cur.take ((i+1)*4)).length=i*4+4:=by rw [List.length_take];omega
 have e2:(row1 cur l i).drop (i*4+4)=GR.flat encRq (l.drop i)++cur.drop ((i+1)*4+(l.length - i)*4):=by
  unfold row1;rw [List.append_assoc,←hl1,List.drop_left]
 have hd:(GR.flat encRq (l.drop i)).length=(l.length - i)*4:=by rw [flatQ_len,List.length_drop]
 have ht2:(GR.flat encRq (l.take i)).length=i*4:=by rw [flatQ_len,List.length_take,Nat.min_eq_left (by omega)]
 unfold row2;rw [e1,e2,GR.flat_append,GR.flat_cons,←List.append_assoc];rw [show(l.length+1)*4=(GR.flat encRq (l.take i)++encRq q++GR.flat encRq (l.drop i)).length by rw [List.length_append,List.length_append,hd,ht2];show _=_+4+_;omega,List.take_left];rw [List.append_assoc]
theorem insReq_shift (g cap i:Nat) (l:List Rq) (q:Rq) (vb:Nat) (w:World) (cur:Array Value) (hl:l.length≤1000) (hi:i < l.length) (hroom:l.length+1≤cap) (hcm:cap≤maxLen) (hvb:vb≠g) (hblk:w.heap[g]?=some (.cells cur 49 (0,0))) (hcs:cur.size=cap*4) (htake:cur.toList.take (l.length*4)=GR.flat encRq l) (hv:w.heap[vb]?=some (.cells #[.int .i64 q.no,.string q.k,.int .i64 q.n,.int .i64 q.s] 49 (0,0))):
 Calls Tryz.prog 188 #[.slice (some ⟨g,0,none⟩) l.length cap,.int .i64 i,.slice (some ⟨vb,0,none⟩) 1 1] w fun e w'=>
  e= .returned (.slice (some ⟨g,0,none⟩) (l.length+1) cap)∧w'.heap[g]?=some (.cells (row2 cur.toList l i q).toArray 49 (0,0))∧w.grownBy w' (some g):=by
 have hcl:(l.length+1)*4≤cur.toList.length:=by rw [show cur.toList.length=cur.size from Array.length_toList,hcs];omega
 have hdl:(GR.flat encRq (l.drop i)).length=(l.length - i)*4:=by rw [flatQ_len,List.length_drop]
 have hcp1:∀ty dl sl dc sc,dl=l.length - i→sl=l.length+1 - i→(Builtin.copy_ #[28,28] ty #[.slice (some ⟨g,(i+1)*4,none⟩) dl dc,.slice (some ⟨g,i*4,none⟩) sl sc]).run Tryz.prog w.drew= .ok (goInt ((l.length - i:Nat):Int)) (w.drew.setRow g (row1 cur.toList l i).toArray):=fun ty dl sl dc sc e1 e2=>by
  subst e1 e2
  have h:=run_copy_rowN (P:=Tryz.prog) w.drew 28 28 ty 49 4 g ((i+1)*4) (l.length - i) dc ⟨g,i*4,none⟩ (l.length+1 - i) sc cur 49 (GR.flat encRq (l.drop i)) Tryz.underlying28 sizeRq hblk (by rw [hdl];simp only[Nat.min_def];split<;>omega)
   (fun j v hj=>by
    rw [Addr.add_lit]
    have h1:(GR.flat encRq l)[i*4+j]?=some v:=by rw [←List.getElem?_drop,(flatQ_cut l i (by omega)).2];exact hj
    rw [←htake,List.getElem?_take] at h1
    split at h1
    ·have h2:w.drew.cell? ⟨g,i*4+j,none⟩=cur[i*4+j]?:=cell_of_row w.drew g (i*4+j) cur 49 (0,0) hblk;rw [h2,←Array.getElem?_toList];exact h1
    ·cases h1)
   (by rw [hdl,hcs];omega) (fun v hv=>flatRq_one _ v hv)
  rw [hdl,show Nat.min (l.length+1 - i) (l.length - i)=l.length - i by simp only[Nat.min_def];split<;>omega] at h
  exact h
 have hr1:=row1_len cur.toList l i hi hcl;have hcsl:cur.toList.length=cap*4:=by rw [show cur.toList.length=cur.size from Array.length_toList,hcs]
 have hb1r:(w.drew.setRow g (row1 cur.toList l i).toArray).heap[g]?=some (.cells (row1 cur.toList l i).toArray 49 (0,0)):=setRow_heap w.drew g cur _ 49 _ hblk
 have hvr:∀j v,(encRq q)[j]?=some v→(w.drew.setRow g (row1 cur.toList l i).toArray).cell? ⟨vb,0+j,none⟩=some v:=fun j v hj=>by
  have h1:(w.drew.setRow g (row1 cur.toList l i).toArray).heap[vb]?=w.heap[vb]?:=setRow_other w.drew g vb _ hvb
  rw [World.cell?_of_block (w:=w) (a:=⟨vb,0+j,none⟩) h1,←Addr.add_lit]
  exact World.news_of_block hv j v hj
 have hcp2:∀ty dl dc,dl=l.length+1 - i→(Builtin.copy_ #[28,28] ty #[.slice (some ⟨g,i*4,none⟩) dl dc,.slice (some ⟨vb,0,none⟩) 1 1]).run Tryz.prog (w.drew.setRow g (row1 cur.toList l i).toArray)= .ok (goInt 1) ((w.drew.setRow g (row1 cur.toList l i).toArray).setRow g (row2 cur.toList l i q).toArray):=fun ty dl dc e1=>by
  subst e1
  have h:=run_copy_rowN (P:=Tryz.prog) (w.drew.setRow g (row1 cur.toList l i).toArray) 28 28 ty 49 4 g (i*4) (l.length+1 - i) dc ⟨vb,0,none⟩ 1 1 (row1 cur.toList l i).toArray 49 (encRq q) Tryz.underlying28 sizeRq hb1r (by show 4=_;simp only[Nat.min_def];split<;>omega)
   (fun j v hj=>by rw [Addr.add_lit];exact hvr j v hj)
   (by show i*4+4≤_;rw [List.size_toArray,hr1,hcsl];omega) (encRq_one q)
  rw [show Nat.min 1 (l.length+1 - i)=1 by simp only[Nat.min_def];split<;>omega] at h
  exact h
 have hfin:=hide (show((w.drew.setRow g (row1 cur.toList l i).toArray).setRow g (row2 cur.toList l i q).toArray).heap[g]?=some (.cells (row2 cur.toList l i q).toArray 49 (0,0))∧w.grownBy ((w.drew.setRow g (row1 cur.toList l i).toArray).setRow g (row2 cur.toList l i q).toArray) (some g) from
  ⟨setRow_heap _ g (row1 cur.toList l i).toArray _ 49 _ hb1r,⟨rfl,rfl,rfl,by simp,fun k _ hk=>(setRow_other _ g k _ (fun e=>hk (by rw [e]))).trans (setRow_other w.drew g k _ (fun e=>hk (by rw [e])))⟩⟩)
 have hov:∀lb cb,(callFunc 219 #[.slice (some ⟨vb,0,none⟩) 1 1,.slice (some ⟨g,(i+1)*4,none⟩) lb cb]).run Tryz.prog w= .ok (.value (.bool false)) w:=fun lb cb=>by
  rw [run_callFunc_extern Tryz.func219 (by kernel_rfl) (by kernel_rfl) (by kernel_rfl) (e:=Extern.SlicesOverlaps.overlaps #[28,28] #[4]) (by kernel_rfl),
   Lib.run_overlaps_apart w 28 4 49 Tryz.underlying28 4 (fun w=>by kernel_rfl) ⟨vb,0,none⟩ ⟨g,(i+1)*4,none⟩ 1 1 lb cb hvb 49 49 4 cur.size (by unfold World.shape?;rw [hv];rfl) (by unfold World.shape?;rw [hblk]) (by omega) (obj_free hv 0) (obj_free hv 4)]
  rfl
 open Sa252 in exact Ya67
end Go.Proofs.YtppmcficiphgdaaGreatDoor
