/-
  NdI, NdPlaceS, NdToldS, NdI2, NdW, NdSeenL, DecMath.
-/
import Derived.Test.YtheiblbhlmaphaaPa3
import Derived.Test.YtheiblbhlmaphaaPaZ2
import Derived.Test.YtheiblbhlmaphaaPa2
import Derived.Test.YtheiblbhlmaphaaPa1
import Derived.Deep.QuietTactic
import Derived.BigQuiet
import Derived.Lib.QuietBelow
import Derived.Deep.DeepCutAuto
import Derived.Deep.CutBlock
import Derived.Lib.ItoaNum
import Derived.Lib.ItoaLen
namespace Go.Proofs.Ytheiblbhlmaphaa
set_option maxHeartbeats 1000000
set_option maxRecDepth 100000
open Go.RowKit
open Mth
theorem implIndex (a:Option Addr) (cap:Nat) (l:List Int) (x:Int) (w:World) (hl:l.length≤1048600) (ha:IntsAt w a l):
 Calls Try.prog 93 #[.slice a l.length cap,.int .i64 x] w fun e w'=>(∃i:Int,e= .returned (.int .i64 i)∧decide (0≤i)=hasB l x)∧w=w':=by
 have HA:=hide ha;clear ha;go_enter Try.func93,Try.ntmps93
 go_wp2_with fail;go_loop [8] (fun i=>∃k:Nat,k≤l.length∧i= .int .i64 k∧hasB (l.take k) x=false) (fun i=>l.length - (intOf i).toNat)
 case atStart=>exact⟨0,Nat.zero_le _,rfl,rfl⟩
 case round=>
  obtain⟨k,hk,rfl,hno⟩:=hrel;have HN:=hide hno;clear hno;by_cases hlt:k < l.length
  ·obtain⟨g,off,rfl,hgw,q0⟩:=IntsAt.one HA k hlt;by_cases hx:l[k]=x
   ·have HY:=hide (has_yes l x k hlt hx);rw [hx] at q0;clear hx;go_wp2_with fail;go_ret;exact⟨⟨k,rfl,by rw [unhide HY];simp⟩,rfl⟩
   ·have HS:=hide (has_snoc l x k hlt);rw [decide_eq_false hx] at HS;have hx':¬(x=l[k]):=fun h=>hx h.symm
    exact Za20
  ·open Sa17 in exact Ya5
theorem implContains (a:Option Addr) (cap:Nat) (l:List Int) (x:Int) (w:World) (hl:l.length≤1048600) (ha:IntsAt w a l):
 Calls Try.prog 91 #[.slice a l.length cap,.int .i64 x] w fun e w'=>e= .returned (.bool (hasB l x))∧w=w':=by
 have HI:=hide (implIndex a cap l x w hl ha);clear ha;go_enter Try.func91,Try.ntmps91
 go_wp2_with fail;refine HI.mono ?_;rintro e w1 ⟨⟨i,rfl,hi⟩,rfl⟩;have HD:=hide hi;clear hi;go_wp2_with fail;go_ret;exact⟨ret_bool HD,rfl⟩
theorem implIsKid (n:Nd) (A:Ads) (x:Int) (w:World) (hl:n.kids.length≤1048600) (ha:IntsAt w A.k n.kids):
 Calls Try.prog 82 #[ndv n A,.int .i64 x] w fun e w'=>e= .returned (.bool (hasB n.kids x))∧Below w.heap.size w w':=by
 have HH:=hide (implContains A.k A.ck n.kids x (w.alloc (.cells (ndc n A) 42)) hl (GR.At.below ha (below_one w _)));clear ha;go_enter Try.func82,Try.ntmps82
 go_wp2_with (go_at_call 91;refine HH.mono ?_;rintro e w1 ⟨rfl,rfl⟩)
 go_ret;exact⟨rfl,below_one w _⟩
def Mth.nearI (n:Nd) (x:Int):Bool:=ndB x&&(decide (x=n.par)||hasB n.kids x)
theorem Mth.near_same {n:Nd} (h:placeB n=true) (x:Int):nearI n x=nearB n x:=by
 obtain⟨h1,_,h3⟩:=place_kids h
 have hp:n.par≤29:=by
  exact Za39
 unfold nearI nearB;cases hh:hasB n.kids x
 ·simp only[Bool.or_false];by_cases hx:x=n.par
  ·by_cases h0:0≤x
   ·simp[ndB,hx];omega
   ·simp[ndB,hx];omega
  ·simp[hx]
 ·have h2:=h1 x ((has_iff _ _).1 hh);unfold kidB at h2;simp only[Bool.and_eq_true] at h2;rw [h2.1.1];simp
theorem implNear (n:Nd) (A:Ads) (x:Int) (w:World) (hl:n.kids.length≤1048600) (ha:IntsAt w A.k n.kids):
 Calls Try.prog 67 #[ndv n A,.int .i64 x] w fun e w'=>e= .returned (.bool (nearI n x))∧Below w.heap.size w w':=by
 have HK:=hide (implIsKid n A x (w.alloc (.cells (ndc n A) 42)) hl (GR.At.below ha (below_one w _)));clear ha;cases h0:ndB x
 ·have HN:=hide (show nearI n x=false by simp[nearI,h0]);have HA:=hide (fun w1=>isNode x false w1 h0);clear h0;exact Za42
 ·have HA:=hide (fun w1=>isNode x true w1 h0);by_cases h1:x=n.par
  ·have HN:=hide (show nearI n x=true by unfold nearI;rw [h0,decide_eq_true h1];rfl);have h2:(x == n.par)=true:=by simp[h1]
   clear h1 h0;exact Za42
  ·have HN:=hide (show nearI n x=hasB n.kids x by simp[nearI,h1,h0]);have h2:(x == n.par)=false:=by simp[h1]
   clear h1 h0;go_enter Try.func67,Try.ntmps67
   go_wp2_with (first|(go_at_call 65;refine(HA _).mono ?_;rintro e w1 ⟨rfl,rfl⟩)|(go_at_call 82;refine HK.mono ?_;rintro e w2 ⟨rfl,hb2⟩))
   go_ret;exact⟨ret_bool HN.symm,(below_one w _).trans (hb2.mono (by simp))⟩
end Go.Proofs.Ytheiblbhlmaphaa
namespace Go.Proofs.Ytheiblbhlmaphaa
set_option maxHeartbeats 4000000
set_option maxRecDepth 100000
open Go.RowKit
open Mth
theorem qNode (x:Int) (b:Bool) (hb:ndB x=b) (W:World) (n:Nat):Calls Try.prog 62 #[.int .i64 x] (W.drewN n) fun e w''=>e= .returned (.bool b)∧∃m,w''=W.drewN m:=
 (l04Node x b _ hb).mono fun _ _ ⟨he,hw⟩=>⟨he,n,hw.symm⟩
theorem Mth.place_head {n:Nd} (h:(ndB n.id&&decide (-1≤n.par∧n.par≤29)&&decide (n.par≠n.id)&&decide (n.kids.length≤30))=false):placeB n=false:=by
 unfold placeB;rw [h];rfl
theorem Mth.place_tail {n:Nd} (h1:ndB n.id=true) (h2: -1≤n.par∧n.par≤29) (h3:n.par≠n.id) (h4:n.kids.length≤30):placeB n=chk (kidB n.id n.par) ltB n.kids:=by
 unfold placeB;rw [h1,decide_eq_true h2,decide_eq_true h3,decide_eq_true h4];rfl
theorem specPlace (n:Nd) (A:Ads) (w:World) (hl:n.kids.length≤1048600) (ha:IntsAt w A.k n.kids):
 Calls Try.prog 45 #[ndv n A] w fun e w'=>e= .returned (.bool (placeB n))∧Below w.heap.size w w':=by
 have HA:=hide ha;have HD:=hide (@place_head n);have HTL:=hide (@place_tail n);have HCB:=hide (fun k h=>chk_bad (kidB n.id n.par) ltB n.kids k h);have HCF:=hide (chk_first (kidB n.id n.par) ltB n.kids);have HCN:=hide (chk_next (kidB n.id n.par) ltB n.kids);clear ha;open Sa69 in exact Ya23
end Go.Proofs.Ytheiblbhlmaphaa
namespace Go.Proofs.Ytheiblbhlmaphaa
set_option maxHeartbeats 8000000
set_option maxRecDepth 100000
open Go.RowKit
open Mth
theorem cell_grown' {w:World} {a:Addr} {v:Value} (h:w.cell? a=some v):∀d os,(Sort.grow (redrawn w d) os).cell? a=some v:=fun d os=>cell_regrown h d os
theorem rNear (n:Nd) (A:Ads) (x:Int) (b:Bool) (wc:World) (hl:n.kids.length≤1048600) (ha:IntsAt wc A.k n.kids) (hb:nearB n x=b):∀d os,Calls Try.prog 34 #[ndv n A,.int .i64 x] (Sort.grow (redrawn wc d) os) fun e w''=>e= .returned (.bool b)∧∃p:Regrown,w''=Sort.grow (redrawn wc p.d) p.os:=fun d os=>by
 rw [←hb];exact Calls.regrown_of (specNear n A x _ hl (GR.At.below ha (below_regrown wc d os)))
theorem rSome (x:Int) (b:Bool) (wc:World) (hb:smB x=b):∀d os,Calls Try.prog 48 #[.int .i64 x] (Sort.grow (redrawn wc d) os) fun e w''=>e= .returned (.bool b)∧∃p:Regrown,w''=Sort.grow (redrawn wc p.d) p.os:=fun _ _=>
 Calls.regrown_of ((l04Some x b _ hb).mono fun _ _ ⟨he,hw⟩=>⟨he,hw▸Below.refl _ _⟩)
theorem qIn (x a b:Int) (r:Bool) (hb:decide (a≤x∧x≤b)=r) (W:World) (n:Nat):Calls Try.prog 33 #[.int .i64 x,.int .i64 a,.int .i64 b] (W.drewN n) fun e w''=>e= .returned (.bool r)∧∃m,w''=W.drewN m:=
 (l01InR x a b r _ hb).mono fun _ _ ⟨he,hw⟩=>⟨he,n,hw.symm⟩
theorem three {w:World} {g:Nat} {v0 v1 v2:Value} {t:TypeId} (h:w.heap[g]?=some (.cells #[v0,v1,v2] t (0,0))):
 w.cell? ⟨g,0,none⟩=some v0∧w.cell? ⟨g,1,none⟩=some v1∧w.cell? ⟨g,2,none⟩=some v2:=by
 have hc:∀i,w.cell? ⟨g,i,none⟩=#[v0,v1,v2][i]?:=fun i=>cell_of_row w g i _ t (0,0) h
 exact⟨hc 0,hc 1,hc 2⟩
theorem specTold (n:Nd) (A:Ads) (w:World) (hl:n.kids.length≤1048600) (hl2:n.seen.length≤1048600) (hl3:∀s∈n.seen,s.ids.length≤1048600) (ha:IntsAt w A.k n.kids) (hs:SeenAt w A.s n.seen):
 Calls Try.prog 47 #[ndv n A] w fun e w'=>e= .returned (.bool (toldB n))∧Below w.heap.size w w':=by
 have HA:=hide ha;have HS:=hide hs;have HL3:=hide hl3;have HD:Hid (toldB n=(decide ((n.seen.length:Int)=n.kids.length+(if 0≤n.par then 1 else 0))&&chk (fun s=>nearB n s.f&&snB s) (fun s t=>ltB s.f t.f) n.seen)):=rfl;have HCB:=hide (fun k h=>chk_bad (fun s=>nearB n s.f&&snB s) (fun s t=>ltB s.f t.f) n.seen k h);have HCF:=hide (chk_first (fun s=>nearB n s.f&&snB s) (fun s t=>ltB s.f t.f) n.seen);have HCN:=hide (chk_next (fun s=>nearB n s.f&&snB s) (fun s t=>ltB s.f t.f) n.seen);have HNR:=hide (fun x b wc (ha:IntsAt wc A.k n.kids) (hb:nearB n x=b)=>rNear n A x b wc hl ha hb);have HBX:=hide (heap_alloc_new w (.cells (ndc n A) 42));clear ha hs hl3;generalize hpp:(fun s=>nearB n s.f&&snB s)=PP at *;have HPP:Hid (∀s,PP s=(nearB n s.f&&snB s)):=by intro s;rw [←hpp]
 clear hpp;generalize hrr:(fun s t:Sn=>ltB s.f t.f)=RR at *;have HRR:Hid (∀s t,RR s t=ltB s.f t.f):=by intro s t;rw [←hrr]
 clear hrr;generalize hnn:nearB n=NN at *;clear hnn;generalize htt:toldB n=TT at *;clear htt;open Sa70 in exact Ya23
end Go.Proofs.Ytheiblbhlmaphaa
namespace Go.Proofs.Ytheiblbhlmaphaa
set_option maxHeartbeats 4000000
set_option maxRecDepth 100000
open Go.RowKit
open Mth
namespace Mth
def upTo (n:Nat):List Int:=(List.range n).map Int.ofNat
theorem upTo_asc (n:Nat):(upTo n).Pairwise (· < ·):=by
 unfold upTo;rw [List.pairwise_map];exact List.pairwise_lt_range.imp (fun {a b} h=>by show(a:Int) < (b:Int);omega)
theorem upTo_mem (n:Nat) (x:Int):x∈upTo n↔0≤x∧x < n:=by
 unfold upTo;rw [List.mem_map];constructor
 ·rintro⟨a,ha,rfl⟩;have:=List.mem_range.1 ha;show 0≤(a:Int)∧(a:Int) < n
  omega
 ·intro h;exact⟨x.toNat,List.mem_range.2 (by omega),by show((x.toNat:Nat):Int)=x;omega⟩
theorem kids_few {id par:Int} {l:List Int} (h:chk (kidB id par) ltB l=true):l.length≤30:=by
 obtain⟨h1,h2⟩:=(chk_iff (r:=ltB) ltB_trans).1 h
 have h3:=asc_le (upTo 30) l (h2.imp (fun {a b} h=>of_decide_eq_true h)) (upTo_asc 30) (fun x hx=>by
  have h4:=h1 x hx
  unfold kidB ndB at h4
  simp only[Bool.and_eq_true,decide_eq_true_eq] at h4
  rw [upTo_mem]
  omega)
 simpa [upTo] using h3
def placeI (n:Nd):Bool:=ndB n.id&&(decide (n.par= -1)||(ndB n.par&&decide (n.par≠n.id)))&&chk (kidB n.id n.par) ltB n.kids
theorem place_same (n:Nd):placeI n=placeB n:=by
 unfold placeI placeB;cases hc:chk (kidB n.id n.par) ltB n.kids
 ·simp
 ·rw [decide_eq_true (kids_few hc)];cases hi:ndB n.id
  ·simp
  ·have h0:0≤n.id∧n.id≤29:=of_decide_eq_true hi;by_cases h1:n.par= -1
   ·have h2:n.par≠n.id:=by omega
    rw [decide_eq_true h1,decide_eq_true h2,decide_eq_true (show -1≤n.par∧n.par≤29 by omega)];rfl
   ·rw [decide_eq_false h1];unfold ndB;by_cases h2:0≤n.par∧n.par≤29
    ·rw [decide_eq_true h2,decide_eq_true (show -1≤n.par∧n.par≤29 by omega)];simp
    ·rw [decide_eq_false h2,decide_eq_false (show¬(-1≤n.par∧n.par≤29) by omega)];simp
theorem kid_pos {id par x:Int} (h:kidB id par x=true): -1 < x:=by
 unfold kidB ndB at h;exact Za35
theorem id_low {low x:Int} (h:idB low x=true):low - 1 < x:=by
 unfold idB at h;simp only[decide_eq_true_eq] at h;omega
theorem out_pos {n:Nd} {s:Snt} (h:outB n s=true):0 < s.i:=by
 unfold outB at h;exact Za35
theorem req_pos {n:Nd} {s:Rq} (h:reqB n s=true):n.old < s.no:=by
 unfold reqB at h;exact Za35
end Mth
theorem implPlaced (n:Nd) (A:Ads) (w:World) (hl:n.kids.length≤1048600) (ha:IntsAt w A.k n.kids):
 Calls Try.prog 52 #[ndv n A] w fun e w'=>e= .returned (.bool (placeI n))∧Below w.heap.size w w':=by
 have HA:=hide ha;have HD:Hid (placeI n=(ndB n.id&&(decide (n.par= -1)||(ndB n.par&&decide (n.par≠n.id)))&&chk (kidB n.id n.par) ltB n.kids)):=rfl;have HCB:=hide (fun k h=>chk_bad (kidB n.id n.par) ltB n.kids k h);have HCL:=hide (fun k h=>chk_last (kidB n.id n.par) (fun x=>x) (-1) (fun x=>kid_pos) n.kids k h);have HLS:=hide (fun k h=>lastI_snoc (fun x:Int=>x) (-1) n.kids k h);have HKB:=hide (fun x=>show kidB n.id n.par x=(ndB x&&decide (x≠n.id)&&decide (x≠n.par)) from rfl);have HBX:=hide (heap_alloc_new w (.cells (ndc n A) 42));generalize placeI n=TT at *;generalize kidB n.id n.par=KB at *;open Sa71 in exact Ya23
theorem implSeenOne (s:Sn) (b:Option Addr) (c:Nat) (w:World) (hl:s.ids.length≤1048600) (ha:IntsAt w b s.ids):
 Calls Try.prog 69 #[.agg #[.int .i64 s.f,.int .i64 s.l,.slice b s.ids.length c]] w fun e w'=>e= .returned (.bool (snB s))∧Below w.heap.size w w':=by
 obtain⟨fr,lo,ids⟩:=s;dsimp only at hl ha ⊢;have HA:=hide ha;have HD:Hid (snB ⟨fr,lo,ids⟩=(smB lo&&decide (ids.length≤40)&&chk (idB lo) ltB ids)):=rfl;have HCB:=hide (fun k h=>chk_bad (idB lo) ltB ids k h);have HCL:=hide (fun k h=>chk_last (idB lo) (fun x=>x) (lo - 1) (fun x=>id_low) ids k h);have HLS:=hide (fun k h=>lastI_snoc (fun x:Int=>x) (lo - 1) ids k h);have HLB:=hide (fun k (h:chk (idB lo) ltB (ids.take k)=true)=>chk_lastI (key:=fun x=>x) (y0:=lo - 1) (fun x=>id_low) h);have HKB:=hide (fun x=>show idB lo x=decide (lo≤x∧x≤1000000000) from rfl);generalize snB ⟨fr,lo,ids⟩=TT at *;generalize idB lo=KB at *;clear ha;cases h1:smB lo
 case' false=>
  have HP:Hid (TT=false):=by rw [unhide HD,h1];rfl
  have H1:=hide (fun w1=>isSomeAmount lo false w1 h1)
  clear HD h1
  go_enter Try.func69,Try.ntmps69
  go_wp2_with (go_at_call 54;refine(H1 _).mono ?_;rintro e w1 ⟨rfl,rfl⟩)
  go_ret
  exact⟨ret_bool HP.symm,below_one w _⟩
 have H1:=hide (fun w1=>isSomeAmount lo true w1 h1);have hlo:1≤lo∧lo≤1000000000:=of_decide_eq_true h1;obtain⟨hlo1,hlo2⟩:=hlo;by_cases h2:ids.length≤40
 case' neg=>
  have HP:=hide (show TT=false by rw [unhide HD,decide_eq_false h2];simp)
  have hb2:decide ((40:Int) < ids.length)=true:=decide_eq_true (by omega)
  clear HD h1
  go_enter Try.func69,Try.ntmps69
  go_wp2_with (go_at_call 54;refine(H1 _).mono ?_;rintro e w1 ⟨rfl,rfl⟩)
  go_ret
  exact⟨ret_bool HP.symm,below_one w _⟩
 have hb2:decide ((40:Int) < ids.length)=false:=decide_eq_false (by omega);have HOK:Hid (TT=chk KB ltB ids):=by rw [unhide HD,h1,decide_eq_true h2];rfl
 clear HD h1;go_enter Try.func69,Try.ntmps69
 go_wp2_with (go_at_call 54;refine(H1 _).mono ?_;rintro e w1 ⟨rfl,rfl⟩)
 go_loop [3,22] (fun lv i=>∃(k:Nat) (y:Int),k≤ids.length∧i= .int .i64 k∧lv= .int .i64 y∧y=lastI (fun x=>x) (lo - 1) (ids.take k)∧chk KB ltB (ids.take k)=true) (fun _ i=>ids.length - (intOf i).toNat)
 case atStart=>exact⟨0,lo - 1,Nat.zero_le _,rfl,by go_num,rfl,rfl⟩
 case round=>
  obtain⟨k,y,hk,rfl,rfl,hy,hall⟩:=hrel;have HALL:=hide hall;have HY:=hide hy;have hy0:lo - 1≤y:=by rw [hy];exact HLB k hall
  clear hall hy;by_cases hlt:k < ids.length
  case' neg=>
   have hke:k=ids.length:=by omega
   subst hke
   have hnlt:decide ((ids.length:Int) < (ids.length:Int))=false:=by simp
   have HF:Hid (TT=true):=by
    exact Za10
   go_wp2_with fail
   go_ret
   exact⟨ret_bool HF.symm,below_one w _⟩
  obtain⟨g,off,rfl,hgw,q0⟩:=IntsAt.one (GR.At.below HA (below_one w (.cells #[.int .i64 fr,.int .i64 lo,.slice b ids.length c] 58))) k hlt;have HBAD:Hid (chk KB ltB (ids.take (k+1))=false→TT=false):=fun h=>HOK.trans (HCB _ h)
  have HNX:Hid (chk KB ltB (ids.take (k+1))=(KB ids[k]&&decide (y < ids[k]))):=by
   exact Za23
  have HLN:=hide (HLS k hlt);have HKX:=hide (HKB ids[k]);clear HCL HLS HCB HKB HLB;generalize ids[k]=x at *;by_cases h2:y < x
  case' neg=>
   have hb3:decide (x≤y)=true:=decide_eq_true (by omega)
   have HV:=hide (HBAD (by rw [unhide HNX,unhide HKX];rw [decide_eq_false h2];simp))
   clear HBAD HNX HKX
   go_wp2_with (fail)
   go_ret
   exact⟨ret_bool HV.symm,below_one w _⟩
  have hb3:decide (x≤y)=false:=decide_eq_false (by omega);cases h3:amB x
  case' false=>
   have H3:=hide (fun w1=>implAmB x false w1 h3)
   have h4:¬(0≤x∧x≤1000000000):=of_decide_eq_false h3
   have HV:=hide (HBAD (by rw [unhide HNX,unhide HKX];rw [decide_eq_false (show¬(lo≤x∧x≤1000000000) by omega)];rfl))
   clear HBAD HNX HKX h3 h4
   go_wp2_with (go_at_call 70;refine(H3 _).mono ?_;rintro e w1 ⟨rfl,rfl⟩)
   go_ret
   exact⟨ret_bool HV.symm,below_one w _⟩
  have H3:=hide (fun w1=>implAmB x true w1 h3);have h4:0≤x∧x≤1000000000:=of_decide_eq_true h3;have HV:=hide (show chk KB ltB (ids.take (k+1))=true by rw [unhide HNX,unhide HKX,decide_eq_true (show lo≤x∧x≤1000000000 by omega),decide_eq_true h2];rfl);clear HBAD HNX HKX h3 h4;go_wp2_with (go_at_call 70;refine(H3 _).mono ?_;rintro e w1 ⟨rfl,rfl⟩)
  exact Za34
end Go.Proofs.Ytheiblbhlmaphaa
namespace Go.Proofs.Ytheiblbhlmaphaa
open Go.RowKit
open Mth
structure R3 where
 f:Int
 l:Int
 v:Value
abbrev encR3 (x:R3):List Value:=[.int .i64 x.f,.int .i64 x.l,x.v]
theorem encR3_length (x:R3):(encR3 x).length=3:=rfl
def SeenRow (w:World) (l:List Sn) (T:List R3) (I:Nat→Nat):Prop:=T.length=l.length∧∀i (hi:i < l.length),∃b c,T[i]?=some ⟨l[i].f,l[i].l,.slice b l[i].ids.length c⟩∧GR.W encNum 1 w b (I i) l[i].ids
def SeenW (w:World) (a:Option Addr) (g:Nat) (I:Nat→Nat) (l:List Sn):Prop:=∃T,GR.W encR3 3 w a g T∧SeenRow w l T I
theorem SeenW.at {w:World} {a:Option Addr} {g:Nat} {I:Nat→Nat} {l:List Sn} (h:SeenW w a g I l):SeenAt w a l:=fun i hi=>by
 obtain⟨T,hT,hl,hr⟩:=h;obtain⟨b,c,ht,hi2⟩:=hr i hi;obtain⟨e,hg,hc⟩:=hT i (by omega)
 have hti:T[i]'(by omega)=⟨l[i].f,l[i].l,.slice b l[i].ids.length c⟩:=by
  have:=List.getElem?_eq_getElem (l:=T) (i:=i) (by omega);rw [this] at ht;exact Option.some.inj ht
 rw [hti] at hc;refine⟨g,0,b,c,e,hg,?_,?_,?_,hi2.at⟩
 ·have:=(hc 0 (by omega)).1;simpa using this
 ·have:=(hc 1 (by omega)).1;simpa using this
 ·have:=(hc 2 (by omega)).1;simpa using this
def fpI (I:Nat→Nat) (l:List Sn):List Nat:=(List.range l.length).flatMap fun i=>fp (I i) (l.getD i default).ids
theorem fpI_mem {I:Nat→Nat} {l:List Sn} {i:Nat} (hi:i < l.length):∀x∈fp (I i) l[i].ids,x∈fpI I l:=by
 intro x hx;unfold fpI;rw [List.mem_flatMap];refine⟨i,List.mem_range.2 hi,?_⟩;rw [List.getD_eq_getElem?_getD,List.getElem?_eq_getElem hi];exact hx
theorem of_fpI {I:Nat→Nat} {l:List Sn} {x:Nat} (h:x∈fpI I l):∃i,∃hi:i < l.length,x=I i∧0 < l[i].ids.length:=by
 unfold fpI at h;rw [List.mem_flatMap] at h;obtain⟨i,hi,hx⟩:=h;have hi':=List.mem_range.1 hi;rw [List.getD_eq_getElem?_getD,List.getElem?_eq_getElem hi'] at hx;exact⟨i,hi',of_fp hx⟩
theorem SeenW.keeps {F:List Nat} {w w':World} {a:Option Addr} {g:Nat} {I:Nat→Nat} {l:List Sn} (h:SeenW w a g I l) (hk:KeepsL F w w') (hg:∀x∈fp g l,x∉F) (hI:∀x∈fpI I l,x∉F):SeenW w' a g I l:=by
 obtain⟨T,hT,hl,hr⟩:=h;refine⟨T,hT.keeps hk (fun x hx=>hg x ?_),hl,fun i hi=>?_⟩
 ·have:=of_fp hx;rw [this.1];exact fp_mem (by omega)
 ·obtain⟨b,c,ht,hi2⟩:=hr i hi;exact⟨b,c,ht,hi2.keeps hk (fun x hx=>hI x (fpI_mem hi x hx))⟩
structure Blks where
 k:Nat
 p:Nat
 o:Nat
 s:Nat
 r:Nat
 i:Nat→Nat
def Blks.all (G:Blks) (n:Nd):List Nat:=fp G.k n.kids++(fp G.p n.pu++(fp G.o n.out++(fp G.s n.seen++(fpI G.i n.seen++fp G.r n.reqs))))
structure NodeW (w:World) (A:Ads) (G:Blks) (n:Nd):Prop where
 k:GR.W encNum 1 w A.k G.k n.kids
 p:GR.W encP 4 w A.p G.p n.pu
 o:GR.W encSnt 4 w A.o G.o n.out
 s:SeenW w A.s G.s G.i n.seen
 r:GR.W encRq 4 w A.r G.r n.reqs
theorem NodeW.at {w:World} {A:Ads} {G:Blks} {n:Nd} (h:NodeW w A G n):NodeAt w A n:=⟨h.k.at,h.p.at,h.o.at,h.s.at,h.r.at⟩
theorem Blks.mem_all {G:Blks} {n:Nd} {x:Nat}:x∈G.all n↔x∈fp G.k n.kids∨x∈fp G.p n.pu∨x∈fp G.o n.out∨x∈fp G.s n.seen∨x∈fpI G.i n.seen∨x∈fp G.r n.reqs:=by
 unfold Blks.all;simp only[List.mem_append]
theorem NodeW.keeps {F:List Nat} {w w':World} {A:Ads} {G:Blks} {n:Nd} (h:NodeW w A G n) (hk:KeepsL F w w') (hd:∀x∈G.all n,x∉F):NodeW w' A G n:=
 ⟨h.k.keeps hk (fun x hx=>hd x (Blks.mem_all.2 (.inl hx))),h.p.keeps hk (fun x hx=>hd x (Blks.mem_all.2 (.inr (.inl hx)))),h.o.keeps hk (fun x hx=>hd x (Blks.mem_all.2 (.inr (.inr (.inl hx))))),h.s.keeps hk (fun x hx=>hd x (Blks.mem_all.2 (.inr (.inr (.inr (.inl hx)))))) (fun x hx=>hd x (Blks.mem_all.2 (.inr (.inr (.inr (.inr (.inl hx))))))),h.r.keeps hk (fun x hx=>hd x (Blks.mem_all.2 (.inr (.inr (.inr (.inr (.inr hx)))))))⟩
theorem NodeW.below {w w':World} {A:Ads} {G:Blks} {n:Nd} (h:NodeW w A G n) (hb:Below w.heap.size w w'):NodeW w' A G n:=h.keeps (F:=[]) (KeepsL.of_below hb) (fun _ _=>by simp)
structure Blks.Sep (G:Blks) (n:Nd) (lo hi:Nat):Prop where
 nodup:(G.all n).Nodup
 rng:∀x∈G.all n,lo≤x∧x < hi
end Go.Proofs.Ytheiblbhlmaphaa
namespace Go.Proofs.Ytheiblbhlmaphaa
set_option maxHeartbeats 2000000
set_option maxRecDepth 100000
open Go.RowKit
open Mth
abbrev seenV (s:Sn) (b:Option Addr) (c:Nat):Value:= .agg #[.int .i64 s.f,.int .i64 s.l,.slice b s.ids.length c]
theorem infoSeen:(Try.prog.info? 58).map (fun i=>(i.zero,i.size,i.bytes))=some (some (.agg #[.int .i64 0,.int .i64 0,.slice none 0 0]),3,40):=by kernel_rfl
theorem makeSeen (n:Nat) (hn:n≤2000000):∀W:World,(Instr.makeSlice 39 (.int .i64 (n:Int)) (.int .i64 (n:Int))).run Try.prog W= .ok (.slice (some ⟨W.heap.size,0,none⟩) n n) (W.alloc (.cells (GR.flat encR3 (List.replicate n ⟨0,0,.slice none 0 0⟩)).toArray 58)):=by
 obtain⟨i0,hi,hz0,hz1,hz2⟩:=info_parts infoSeen;intro W;have h:=run_make (P:=Try.prog) W 39 58 i0 (.agg #[.int .i64 0,.int .i64 0,.slice none 0 0]) Try.underlying39 hi hz0 .i64 .i64 (n:Int) (n:Int) (by omega) (by omega) (by rw [hz2];omega) (by omega);rw [hz1] at h;have e:=GR.made_flat encR3 3 encR3_length (by omega) ⟨0,0,.slice none 0 0⟩ (Value.cells (.agg #[.int .i64 0,.int .i64 0,.slice none 0 0])) rfl n;exact Za18
theorem blk_setO {w:World} {c:Nat} {cs:Array Value} {t:TypeId} (h:w.heap[c]?=some (.cells cs t (0,0))) (i:Nat) (v:Value):(w.setCell ⟨c,i,none⟩ v).heap[c]?=some (.cells (cs.setIfInBounds i v) t (0,0)):=by
 exact Za49
theorem oth_set {w:World} {g g' i:Nat} {v:Value} {o:Option Obj} (h:w.heap[g']?=o) (hne:g'≠g):(w.setCell ⟨g,i,none⟩ v).heap[g']?=o:=by rw [Below.heap_setCell _ _ _ _ hne,h]
theorem allocs3 (w:World) (a b c:Obj):(((w.alloc a).alloc b).alloc c).heap[w.heap.size]?=some a∧(((w.alloc a).alloc b).alloc c).heap[w.heap.size+1]?=some b∧(((w.alloc a).alloc b).alloc c).heap[w.heap.size+1+1]?=some c∧Below w.heap.size w (((w.alloc a).alloc b).alloc c):=by
 have e1:(w.alloc a).heap.size=w.heap.size+1:=by simp
 have e2:((w.alloc a).alloc b).heap.size=w.heap.size+1+1:=by simp
 have h1:=heap_alloc_new w a;have h2:=heap_alloc_new (w.alloc a) b;have h3:=heap_alloc_new ((w.alloc a).alloc b) c;rw [e1] at h2;rw [e2] at h3;refine⟨?_,?_,h3,((below_one w _).alloc (by simp) _).alloc (by simp;omega) _⟩
 ·rw [Below.heap_alloc _ _ _ (by rw [e2];omega),Below.heap_alloc _ _ _ (by rw [e1];omega)];exact h1
 ·rw [Below.heap_alloc _ _ _ (by rw [e2];omega)];exact h2
theorem bodyPost_atN {P:Program} {fn:Func} {Q:Ending→World→Prop} {x:Exit} {act:Act} {W:World} (h:∀W',W'=W→bodyPost P fn Q x act W'):bodyPost P fn Q x act W:=h W rfl
abbrev r3Blk (w:World) (g:Nat) (T:List R3):Prop:=GR.Blk encR3 58 w g T
theorem r3Blk.three {w:World} {g:Nat} {l:List R3} (h:r3Blk w g l) (i:Nat) (hi:i < l.length):w.cell? ⟨g,i*3,none⟩=some (.int .i64 l[i].f)∧w.cell? ⟨g,i*3+1,none⟩=some (.int .i64 l[i].l)∧w.cell? ⟨g,i*3+2,none⟩=some l[i].v:=
 ⟨by simpa using GR.Blk.cell h encR3_length i hi 0 (by omega),by simpa using GR.Blk.cell h encR3_length i hi 1 (by omega),by simpa using GR.Blk.cell h encR3_length i hi 2 (by omega)⟩
theorem eqSeen (s:Sn) (b b':Option Addr) (c c':Nat) (w:World) (hl:s.ids.length≤1048600) (ha:IntsAt w b s.ids) (hb:IntsAt w b' s.ids):Calls Try.prog 60 #[seenV s b c,seenV s b' c'] w fun e w'=>e= .returned (.bool true)∧Below w.heap.size w w':=by
 obtain⟨fr,lo,ids⟩:=s;dsimp only at hl ha hb ⊢;have hbx:Below w.heap.size w ((w.alloc (.cells #[.int .i64 fr,.int .i64 lo,.slice b ids.length c] 58)).alloc (.cells #[.int .i64 fr,.int .i64 lo,.slice b' ids.length c'] 58)):=(below_one w _).alloc (by simp) _;have HE:=hide (eqIntS b b' c c' ids _ hl (GR.At.below ha hbx) (GR.At.below hb hbx));have HBX:=hide hbx;clear ha hb hbx;go_enter Try.func60,Try.ntmps60
 go_wp2_with fail;refine HE.mono ?_;rintro e w1 ⟨rfl,hb1⟩;have HB1:=hide (HBX.trans (hb1.mono HBX.size));clear hb1;go_wp2_with fail;go_ret;exact⟨rfl,HB1⟩
theorem eqSeenS (a b:Option Addr) (ca cb:Nat) (l:List Sn) (w:World) (hl:l.length≤1048600) (hl2:∀s∈l,s.ids.length≤1048600) (ha:SeenAt w a l) (hb:SeenAt w b l):
 Calls Try.prog 41 #[.slice a l.length ca,.slice b l.length cb] w fun e w'=>e= .returned (.bool true)∧Below w.heap.size w w':=by
 have HA:=hide ha;have HB:=hide hb;have HL2:=hide hl2;clear ha hb hl2;go_enter Try.func41,Try.ntmps41
 go_wp2_with fail;go_loopw [5] (fun i wr=>∃k:Nat,k≤l.length∧i= .int .i64 k∧Below w.heap.size w wr) (fun i _=>l.length - (intOf i).toNat)
 case atStart=>exact Za25
 case round=>
  obtain⟨k,hk,rfl,hbel⟩:=hrel;have HBL:=hide hbel;clear hbel;by_cases hlt:k < l.length
  ·obtain⟨g1,o1,b1,c1,e1,hg1,s0,s1,s2,hI1⟩:=SeenAt.below HA HBL k hlt;obtain⟨g2,o2,b2,c2,e2,hg2,t0,t1,t2,hI2⟩:=SeenAt.below HB HBL k hlt;subst e1 e2;have hs:=unhide HL2 _ (List.getElem_mem hlt);generalize l[k]=pu at *;have HEQ:Hid (∀w1,Below wr.heap.size wr w1→Calls Try.prog 60 #[seenV pu b1 c1,seenV pu b2 c2] w1 fun e w'=>e= .returned (.bool true)∧Below w1.heap.size w1 w'):=fun w1 hbb=>eqSeen pu b1 b2 c1 c2 w1 hs (GR.At.below hI1 hbb) (GR.At.below hI2 hbb)
   clear hI1 hI2;obtain⟨fr,lo,ids⟩:=pu;dsimp only at s0 s1 s2 t0 t1 t2 hs;go_wp2_with fail;have cE:∀d os,Calls Try.prog 60 #[seenV ⟨fr,lo,ids⟩ b1 c1,seenV ⟨fr,lo,ids⟩ b2 c2] (Sort.grow (redrawn wr d) os) fun e w''=>e= .returned (.bool true)∧∃p:Regrown,w''=Sort.grow (redrawn wr p.d) p.os:=fun d os=>Calls.regrown_of (HEQ _ (below_regrown wr d os))
   have k0:=cell_grown' s0;have k1:=cell_grown' s1;have k2:=cell_grown' s2;have m0:=cell_grown' t0;have m1:=cell_grown' t1;have m2:=cell_grown' t2;refine wp_region_quiet_below (by kernel_rfl) (by kernel_rfl) ?_;repeat (first|go_big_quiet_step ((go_at_call 60;exact cE _ _))|quiet_step ((go_at_call 60;exact cE _ _)))
   refine wpQuiet_nil ?_;intro _ hw';obtain⟨⟨dq,osq⟩,hw''⟩:=hw';subst hw'';go_wp2_with fail;go_roundw
   case rel=>exact⟨k+1,by omega,by go_num,HBL.trans ((below_regrown _ dq osq).mono HBL.size)⟩
   case measure=>simp[intOf];omega
  ·exact Za5
end Go.Proofs.Ytheiblbhlmaphaa
namespace Go.Proofs.Ytheiblbhlmaphaa.Mth
open Go.Lib (decDigits itoa)
theorem snoc_ind {p:List UInt8→Prop} (h0:p []) (h1:∀r c,p r→p (r++[c])) (l:List UInt8):p l:=by
 have h:∀(n:Nat) (l:List UInt8),l.length=n→p l:=by
  intro n;induction n with
  |zero=>intro l hl;rw [List.length_eq_zero_iff.1 hl];exact h0
  |succ n ih=>
   intro l hl
   rcases List.eq_nil_or_concat l with rfl|⟨r,c,rfl⟩
   ·exact h0
   ·rw [List.concat_eq_append] at hl ⊢;exact h1 r c (ih r (by simpa using hl))
 exact h l.length l rfl
def isDig (c:UInt8):Prop:=48≤c.toNat∧c.toNat≤57
def val10 (l:List UInt8):Nat:=l.foldl (fun n c=>n*10+(c.toNat - 48)) 0
theorem val10_snoc (l:List UInt8) (c:UInt8):val10 (l++[c])=val10 l*10+(c.toNat - 48):=by simp[val10]
def decOk (l:List UInt8):Prop:=l≠[]∧(∀c∈l,isDig c)∧(l.headD 0≠48∨l.length=1)∧l.length≤9
theorem val10_lt (l:List UInt8):(∀c∈l,isDig c)→val10 l < 10 ^ l.length:=by
 induction l using snoc_ind with
 |h0=>simp[val10]
 |h1 r c ih0=>
  intro h
  have ih:=ih0 (fun x hx=>h x (by simp[hx]))
  have hc:=h c (by simp)
  unfold isDig at hc
  rw [val10_snoc,List.length_append,List.length_singleton,Nat.pow_succ]
  omega
theorem digits_small (v:Nat) (h:v < 10):decDigits v=[UInt8.ofNat (48+v)]:=by rw [decDigits,dif_pos h]
theorem digits_big (v:Nat) (h:¬v < 10):decDigits v=decDigits (v / 10)++[UInt8.ofNat (48+v % 10)]:=by rw [decDigits,dif_neg h]
theorem headD_append (r:List UInt8) (c:UInt8) (h:r≠[]):(r++[c]).headD 0=r.headD 0:=by
 cases r with
 |nil=>exact absurd rfl h
 |cons x t=>rfl
theorem val10_pos (l:List UInt8):l≠[]→(∀c∈l,isDig c)→l.headD 0≠48→10 ^ (l.length - 1)≤val10 l:=by
 induction l using snoc_ind with
 |h0=>intro hne;exact absurd rfl hne
 |h1 r c ih0=>
  intro _ h h0
  have hc:=h c (by simp)
  unfold isDig at hc
  rw [val10_snoc,List.length_append,List.length_singleton]
  by_cases hr:r=[]
  ·subst hr;have:c.toNat≠48:=fun e=>h0 (by show c=48;exact UInt8.toNat_inj.1 e)
   simp[val10];omega
  ·have ih:=ih0 hr (fun x hx=>h x (by simp[hx])) (by rw [←headD_append r c hr];exact h0);have hl:0 < r.length:=List.length_pos_iff.2 hr;obtain⟨m,hm⟩:∃m,r.length=m+1:=⟨r.length - 1,by omega⟩;rw [hm] at ih ⊢;simp only[Nat.add_sub_cancel] at ih ⊢;rw [Nat.pow_succ];omega
theorem digits_val (l:List UInt8):l≠[]→(∀c∈l,isDig c)→(l.headD 0≠48∨l.length=1)→decDigits (val10 l)=l:=by
 induction l using snoc_ind with
 |h0=>intro hne;exact absurd rfl hne
 |h1 r c ih0=>
  intro _ h h0
  have hc:=h c (by simp)
  unfold isDig at hc
  have e0:UInt8.ofNat (48+(c.toNat - 48))=c:=by
   have:48+(c.toNat - 48)=c.toNat:=by omega
   rw [this];simp
  rw [val10_snoc]
  by_cases hr:r=[]
  ·subst hr;have:val10 []=0:=rfl;rw [this,Nat.zero_mul,Nat.zero_add,digits_small _ (by omega),e0];rfl
  ·have hl:0 < r.length:=List.length_pos_iff.2 hr
   have h1:r.headD 0≠48:=by
    rcases h0 with h0|h0
    ·rw [headD_append r c hr] at h0;exact h0
    ·rw [List.length_append,List.length_singleton] at h0;omega
   have hd:∀x∈r,isDig x:=fun x hx=>h x (by simp[hx])
   have hp:=val10_pos r hr hd h1;have hp':1≤val10 r:=Nat.le_trans (Nat.one_le_pow _ _ (by omega)) hp;rw [digits_big _ (by omega)];have e1:(val10 r*10+(c.toNat - 48)) / 10=val10 r:=by omega
   have e2:(val10 r*10+(c.toNat - 48)) % 10=c.toNat - 48:=by omega
   rw [e1,e2,e0,ih0 hr hd (.inl h1)]
theorem digits_head (v:Nat):0 < v→(decDigits v).headD 0≠48∧decDigits v≠[]:=by
 induction v using Nat.strongRecOn with
 |ind v ih=>
 intro h;by_cases hs:v < 10
 ·rw [digits_small v hs];refine⟨?_,by simp⟩;show UInt8.ofNat (48+v)≠48
  intro e;have:=congrArg UInt8.toNat e;rw [toNat_byte _ (by omega)] at this;simp at this;omega
 ·obtain⟨h1,h2⟩:=ih (v / 10) (by omega) (by omega);rw [digits_big v hs];refine⟨?_,by simp⟩;rw [headD_append _ _ h2];exact h1
theorem digits_nought (l:List UInt8) (h0:l.headD 0=48) (h1:l.length≠1):∀v,decDigits v≠l:=by
 intro v e;rcases Nat.eq_zero_or_pos v with rfl|hv
 ·rw [digits_small 0 (by omega)] at e;exact h1 (by rw [←e];rfl)
 ·exact(digits_head v hv).1 (by rw [e];exact h0)
def decOkB (l:List UInt8):Bool:= !l.isEmpty&&l.all (fun c=>decide (48≤c.toNat∧c.toNat≤57))&&(l.headD 0 != 48||l.length == 1)&&decide (l.length≤9)
theorem decOkB_iff (l:List UInt8):decOkB l=true↔decOk l:=by
 unfold decOkB decOk isDig;simp[and_assoc]
end Go.Proofs.Ytheiblbhlmaphaa.Mth
