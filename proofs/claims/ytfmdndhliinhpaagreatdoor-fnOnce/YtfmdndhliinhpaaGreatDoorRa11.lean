/- Parts. -/
import Derived.Test.YtfmdndhliinhpaaGreatDoorRa10
namespace Go.Proofs.YtfmdndhliinhpaaGreatDoor
set_option maxHeartbeats 4000000
set_option maxRecDepth 100000
open Go.RowKit
open Mth
namespace Mth
def upTo (n:Nat):List Int:=(List.range n).map Int.ofNat
theorem Ck (n:Nat):(upTo n).Pairwise (· < ·):=by
 unfold upTo;rw [List.pairwise_map];exact List.pairwise_lt_range.imp (fun {a b} h=>by show(a:Int) < (b:Int);omega)
theorem KN (n:Nat) (x:Int):x∈upTo n↔0≤x∧x < n:=by
 unfold upTo;rw [List.mem_map];constructor
 ·rintro⟨a,ha,rfl⟩;have:=List.mem_range.1 ha;show 0≤(a:Int)∧(a:Int) < n
  omega
 ·intro h;exact⟨x.toNat,List.mem_range.2 (by omega),by show((x.toNat:Nat):Int)=x;omega⟩
theorem Vs {id par:Int} {l:List Int} (h:gH (iP id par) gU l=true):l.length≤30:=by
 obtain⟨h1,h2⟩:=(ql (r:=gU) lU).1 h
 have h3:=Me (upTo 30) l (h2.imp (fun {a b} h=>of_decide_eq_true h)) (Ck 30) (fun x hx=>by
  have h4:=h1 x hx
  unfold iP pE at h4
  simp only[Bool.and_eq_true,decide_eq_true_eq] at h4
  rw [KN]
  omega)
 simpa [upTo] using h3
def BR (n:Nd):Bool:=pE n.id&&(decide (n.par= -1)||(pE n.par&&decide (n.par≠n.id)))&&gH (iP n.id n.par) gU n.kids
theorem M8 (n:Nd):BR n=dx n:=by
 unfold BR dx;cases hc:gH (iP n.id n.par) gU n.kids
 ·simp
 ·rw [decide_eq_true (Vs hc)];cases hi:pE n.id
  ·simp
  ·have h0:0≤n.id∧n.id≤29:=of_decide_eq_true hi;by_cases h1:n.par= -1
   ·have h2:n.par≠n.id:=by omega
    rw [decide_eq_true h1,decide_eq_true h2,decide_eq_true (show -1≤n.par∧n.par≤29 by omega)];rfl
   ·rw [decide_eq_false h1];unfold pE;by_cases h2:0≤n.par∧n.par≤29
    ·rw [decide_eq_true h2,decide_eq_true (show -1≤n.par∧n.par≤29 by omega)];simp
    ·rw [decide_eq_false h2,decide_eq_false (show¬(-1≤n.par∧n.par≤29) by omega)];simp
theorem Yy {id par x:Int} (h:iP id par x=true): -1 < x:=by
 unfold iP pE at h;exact TV
theorem Vd {low x:Int} (h:xU low x=true):low - 1 < x:=by
 unfold xU at h;simp only[decide_eq_true_eq] at h;omega
theorem OW {n:Nd} {s:jH} (h:rJ n s=true):0 < s.i:=by
 unfold rJ at h;exact TV
theorem OX {n:Nd} {s:Rq} (h:pR n s=true):n.old < s.no:=by
 unfold pR at h;exact TV
end Mth
theorem MH (n:Nd) (A:bQ) (w:World) (hl:n.kids.length≤1048600) (ha:dM w A.k n.kids):
 Calls Tryz.prog 38 #[fU n A] w fun e w'=>e= .returned (.bool (BR n))∧Below w.heap.size w w':=by
 have HA:=hide ha;have HD:Hid (BR n=(pE n.id&&(decide (n.par= -1)||(pE n.par&&decide (n.par≠n.id)))&&gH (iP n.id n.par) gU n.kids)):=rfl;have um:=hide (fun k h=>mY (iP n.id n.par) gU n.kids k h);have jr:=hide (fun k h=>vW (iP n.id n.par) (fun x=>x) (-1) (fun x=>Yy) n.kids k h);have vK:=hide (fun k h=>qD (fun x:Int=>x) (-1) n.kids k h);have NJ:=hide (fun x=>show iP n.id n.par x=(pE x&&decide (x≠n.id)&&decide (x≠n.par)) from rfl);have kR:=hide (heap_alloc_new w (.cells (fO n A) 30));generalize BR n=TT at *;generalize iP n.id n.par=KB at *;open ajq in exact yu
theorem JB (s:Sn) (b:Option Addr) (c:Nat) (w:World) (hl:s.ids.length≤1048600) (ha:dM w b s.ids):
 Calls Tryz.prog 73 #[.agg #[.int .i64 s.f,.int .i64 s.l,.slice b s.ids.length c]] w fun e w'=>e= .returned (.bool (rM s))∧Below w.heap.size w w':=by
 obtain⟨fr,lo,ids⟩:=s;dsimp only at hl ha ⊢;have HA:=hide ha;have HD:Hid (rM ⟨fr,lo,ids⟩=(eU lo&&decide (ids.length≤40)&&gH (xU lo) gU ids)):=rfl;have um:=hide (fun k h=>mY (xU lo) gU ids k h);have jr:=hide (fun k h=>vW (xU lo) (fun x=>x) (lo - 1) (fun x=>Vd) ids k h);have vK:=hide (fun k h=>qD (fun x:Int=>x) (lo - 1) ids k h);have Wy:=hide (fun k (h:gH (xU lo) gU (ids.take k)=true)=>yx (key:=fun x=>x) (y0:=lo - 1) (fun x=>Vd) h);have NJ:=hide (fun x=>show xU lo x=decide (lo≤x∧x≤1000000000) from rfl);generalize rM ⟨fr,lo,ids⟩=TT at *;generalize xU lo=KB at *;clear ha;cases h1:eU lo
 case' false=>
  have HP:Hid (TT=false):=by rw [ah HD,h1];rfl
  have H1:=hide (fun w1=>aS lo false w1 h1)
  clear HD h1
  go_enter Tryz.func73,Tryz.ntmps73
  go_wp2_with (go_at_call 40;refine(H1 _).mono ?_;rintro e w1 ⟨rfl,rfl⟩)
  go_ret
  exact⟨aD HP.symm,ay w _⟩
 have H1:=hide (fun w1=>aS lo true w1 h1);have hlo:1≤lo∧lo≤1000000000:=of_decide_eq_true h1;obtain⟨hlo1,hlo2⟩:=hlo;by_cases h2:ids.length≤40
 case' neg=>
  have HP:=hide (show TT=false by rw [ah HD,decide_eq_false h2];simp)
  have hb2:decide ((40:Int) < ids.length)=true:=decide_eq_true (by omega)
  clear HD h1
  go_enter Tryz.func73,Tryz.ntmps73
  go_wp2_with (go_at_call 40;refine(H1 _).mono ?_;rintro e w1 ⟨rfl,rfl⟩)
  go_ret
  exact⟨aD HP.symm,ay w _⟩
 have hb2:decide ((40:Int) < ids.length)=false:=decide_eq_false (by omega);have mg:Hid (TT=gH KB gU ids):=by rw [ah HD,h1,decide_eq_true h2];rfl
 clear HD h1;go_enter Tryz.func73,Tryz.ntmps73
 go_wp2_with (go_at_call 40;refine(H1 _).mono ?_;rintro e w1 ⟨rfl,rfl⟩)
 go_loop [3,22] (fun lv i=>∃(k:Nat) (y:Int),k≤ids.length∧i= .int .i64 k∧lv= .int .i64 y∧y=uF (fun x=>x) (lo - 1) (ids.take k)∧gH KB gU (ids.take k)=true) (fun _ i=>ids.length - (intOf i).toNat)
 case atStart=>exact⟨0,lo - 1,Nat.zero_le _,rfl,by go_num,rfl,rfl⟩
 case round=>
  obtain⟨k,y,hk,rfl,rfl,hy,hall⟩:=hrel;have kQ:=hide hall;have HY:=hide hy;have hy0:lo - 1≤y:=by rw [hy];exact Wy k hall
  clear hall hy;by_cases hlt:k < ids.length
  case' neg=>
   have hke:k=ids.length:=by omega
   subst hke
   have hnlt:decide ((ids.length:Int) < (ids.length:Int))=false:=by simp
   have HF:Hid (TT=true):=by
    exact PI
   go_wp2_with fail
   go_ret
   exact⟨aD HF.symm,ay w _⟩
  obtain⟨g,off,rfl,hgw,q0⟩:=dM.one (GR.At.below HA (ay w (.cells #[.int .i64 fr,.int .i64 lo,.slice b ids.length c] 57))) k hlt;have HBAD:Hid (gH KB gU (ids.take (k+1))=false→TT=false):=fun h=>mg.trans (um _ h)
  have fP:Hid (gH KB gU (ids.take (k+1))=(KB ids[k]&&decide (y < ids[k]))):=by
   exact abF
  have Ae:=hide (vK k hlt);have zK:=hide (NJ ids[k]);clear jr vK um NJ Wy;generalize ids[k]=x at *;by_cases h2:y < x
  case' neg=>
   have hb3:decide (x≤y)=true:=decide_eq_true (by omega)
   have HV:=hide (HBAD (by rw [ah fP,ah zK];rw [decide_eq_false h2];simp))
   clear HBAD fP zK
   go_wp2_with (fail)
   go_ret
   exact⟨aD HV.symm,ay w _⟩
  have hb3:decide (x≤y)=false:=decide_eq_false (by omega);cases h3:nS x
  case' false=>
   have H3:=hide (fun w1=>jw x false w1 h3)
   have h4:¬(0≤x∧x≤1000000000):=of_decide_eq_false h3
   have HV:=hide (HBAD (by rw [ah fP,ah zK];rw [decide_eq_false (show¬(lo≤x∧x≤1000000000) by omega)];rfl))
   clear HBAD fP zK h3 h4
   go_wp2_with (go_at_call 74;refine(H3 _).mono ?_;rintro e w1 ⟨rfl,rfl⟩)
   go_ret
   exact⟨aD HV.symm,ay w _⟩
  have H3:=hide (fun w1=>jw x true w1 h3);have h4:0≤x∧x≤1000000000:=of_decide_eq_true h3;have HV:=hide (show gH KB gU (ids.take (k+1))=true by rw [ah fP,ah zK,decide_eq_true (show lo≤x∧x≤1000000000 by omega),decide_eq_true h2];rfl);clear HBAD fP zK h3 h4;go_wp2_with (go_at_call 74;refine(H3 _).mono ?_;rintro e w1 ⟨rfl,rfl⟩)
  exact abY
end Go.Proofs.YtfmdndhliinhpaaGreatDoor
namespace Go.Proofs.YtfmdndhliinhpaaGreatDoor
set_option maxHeartbeats 4000000
set_option maxRecDepth 100000
open Go.RowKit
open Mth
theorem Qr (n:Nd) (A:bQ) (w:World) (hz:eF n 1048600) (hp:dx n=true) (ha:dQ w A n):
 Calls Tryz.prog 41 #[fU n A] w fun e w'=>e= .returned (.bool (pJ n))∧Below w.heap.size w w':=by
 have HA:=hide ha;have HD:Hid (pJ n=(decide (n.out.length≤40)&&gH (rJ n) (fun s t=>gU s.i t.i) n.out)):=rfl;have um:=hide (fun k h=>mY (rJ n) (fun s t=>gU s.i t.i) n.out k h);have jr:=hide (fun k h=>vW (rJ n) (fun s=>s.i) 0 (fun x=>OW) n.out k h);have vK:=hide (fun k h=>qD (fun s:jH=>s.i) 0 n.out k h);have Wy:=hide (fun k (h:gH (rJ n) (fun s t=>gU s.i t.i) (n.out.take k)=true)=>yx (key:=fun s=>s.i) (y0:=0) (fun x=>OW) h);have NJ:=hide (fun s=>show rJ n s=(decide (1≤s.i∧s.i≤n.next - 1)&&dH n s.t&&keyOk s.k.data.toList&&eU s.n) from rfl)
 have Hq:Hid (∀x w1,Below w.heap.size w w1→Calls Tryz.prog 70 #[fU n A,.int .i64 x] w1 fun e w'=>e= .returned (.bool (dH n x))∧Below w1.heap.size w1 w'):=fun x w1 hb=>by
  have h:=Jy n A x w1 hz.k (ha.below hb).k
  rw [near_same hp] at h
  exact h
 have hlo:=hz.o;have kR:=hide (heap_alloc_new w (.cells (fO n A) 30));generalize pJ n=TT at *;generalize rJ n=KB at *;generalize dH n=NN at *;clear ha hz hp;open ajs in exact yu
theorem MI (n:Nd) (A:bQ) (w:World) (hz:eF n 1048600) (ha:dQ w A n):
 Calls Tryz.prog 43 #[fU n A] w fun e w'=>e= .returned (.bool (gF n))∧Below w.heap.size w w':=by
 have HA:=hide ha;have HD:Hid (gF n=(nS n.old&&decide (n.reqs.length≤30)&&gH (pR n) (fun s t=>gU s.no t.no) n.reqs)):=rfl;have um:=hide (fun k h=>mY (pR n) (fun s t=>gU s.no t.no) n.reqs k h);have jr:=hide (fun k h=>vW (pR n) (fun s=>s.no) n.old (fun x=>OX) n.reqs k h);have vK:=hide (fun k h=>qD (fun s:Rq=>s.no) n.old n.reqs k h);have Wy:=hide (fun k (h:gH (pR n) (fun s t=>gU s.no t.no) (n.reqs.take k)=true)=>yx (key:=fun s=>s.no) (y0:=n.old) (fun x=>OX) h);have NJ:=hide (fun s=>show pR n s=(decide (n.old+1≤s.no∧s.no≤1000000000)&&keyOk s.k.data.toList&&eU s.n&&decide (0≤s.s∧s.s≤2)) from rfl);have hlo:=hz.r;have kR:=hide (heap_alloc_new w (.cells (fO n A) 30));generalize gF n=TT at *;generalize pR n=KB at *;clear ha hz;open ajr in exact yu
end Go.Proofs.YtfmdndhliinhpaaGreatDoor
namespace Go.Proofs
open Go.Shelf
def Tryz.sortL_ren:Go.Shelf.Ren:=⟨fun|5=>101|8=>121|7=>120|19=>142|20=>143|10=>133|11=>134|12=>135|13=>136|14=>137|15=>138|16=>139|17=>140|18=>141|30=>151|31=>152|32=>153|33=>154|34=>155|35=>156|40=>165|n=>n,fun|23=>24|25=>3|3=>3|32=>109|22=>24|0=>0|44=>174|46=>176|4=>4|36=>167|35=>166|41=>98|5=>5|9=>9|53=>183|57=>187|63=>203|64=>204|n=>n,fun|n=>n⟩
theorem Tryz.sortL:Go.Proofs.SlLaysM.n5 Tryz.prog Tryz.sortL_ren:={
 mixed:=by kernel_rfl
 f5:=⟨Tryz.f101.name,by decide,Tryz.func101.trans (congrArg some (by kernel_rfl))⟩
 f7:=⟨Tryz.f120.name,by decide,Tryz.func120.trans (congrArg some (by kernel_rfl))⟩
 f8:=Tryz.func121.trans (congrArg some (by kernel_rfl))
 f10:=⟨Tryz.f133.name,by decide,Tryz.func133.trans (congrArg some (by kernel_rfl))⟩
 f11:=⟨Tryz.f134.name,by decide,Tryz.func134.trans (congrArg some (by kernel_rfl))⟩
 f12:=⟨Tryz.f135.name,by decide,Tryz.func135.trans (congrArg some (by kernel_rfl))⟩
 f13:=⟨Tryz.f136.name,by decide,Tryz.func136.trans (congrArg some (by kernel_rfl))⟩
 f14:=⟨Tryz.f137.name,by decide,Tryz.func137.trans (congrArg some (by kernel_rfl))⟩
 f15:=⟨Tryz.f138.name,by decide,Tryz.func138.trans (congrArg some (by kernel_rfl))⟩
 f16:=⟨Tryz.f139.name,by decide,Tryz.func139.trans (congrArg some (by kernel_rfl))⟩
 f17:=⟨Tryz.f140.name,by decide,Tryz.func140.trans (congrArg some (by kernel_rfl))⟩
 f18:=⟨Tryz.f141.name,by decide,Tryz.func141.trans (congrArg some (by kernel_rfl))⟩
 f19:=Tryz.func142.trans (congrArg some (by kernel_rfl))
 f20:=Tryz.func143.trans (congrArg some (by kernel_rfl))
 f30:=⟨Tryz.f151.name,by decide,Tryz.func151.trans (congrArg some (by kernel_rfl))⟩
 f31:=Tryz.func152.trans (congrArg some (by kernel_rfl))
 f32:=Tryz.func153.trans (congrArg some (by kernel_rfl))
 f33:=⟨Tryz.f154.name,by decide,Tryz.func154.trans (congrArg some (by kernel_rfl))⟩
 f34:=⟨Tryz.f155.name,by decide,Tryz.func155.trans (congrArg some (by kernel_rfl))⟩
 f35:=⟨Tryz.f156.name,by decide,Tryz.func156.trans (congrArg some (by kernel_rfl))⟩
 f40:=⟨Tryz.f165.name,by decide,Tryz.func165.trans (congrArg some (by kernel_rfl))⟩
 t0:=Tryz.underlying0
 a0:=Tryz.isAgg0
 z0:=Tryz.sizeOf0
 v0:=Tryz.zeroValue0
 t3:=Tryz.underlying3
 a3:=Tryz.isAgg3
 z3:=Tryz.sizeOf3
 v3:=Tryz.zeroValue3
 t4:=Tryz.underlying4
 a4:=Tryz.isAgg4
 z4:=Tryz.sizeOf4
 v4:=Tryz.zeroValue4
 t5:=Tryz.underlying5
 a5:=Tryz.isAgg5
 z5:=Tryz.sizeOf5
 v5:=Tryz.zeroValue5
 t9:=Tryz.underlying9
 a9:=Tryz.isAgg9
 z9:=Tryz.sizeOf9
 v9:=Tryz.zeroValue9
 t22:=Tryz.underlying24
 a22:=Tryz.isAgg24
 z22:=Tryz.sizeOf24
 v22:=Tryz.zeroValue24
 t23:=Tryz.underlying24
 a23:=Tryz.isAgg24
 z23:=Tryz.sizeOf24
 v23:=Tryz.zeroValue24
 t25:=Tryz.underlying3
 a25:=Tryz.isAgg3
 z25:=Tryz.sizeOf3
 v25:=Tryz.zeroValue3
 t32:=Tryz.underlying109
 a32:=Tryz.isAgg109
 z32:=Tryz.sizeOf109
 v32:=Tryz.zeroValue109
 t35:=Tryz.underlying166
 a35:=Tryz.isAgg166
 z35:=Tryz.sizeOf166
 v35:=Tryz.zeroValue166
 t36:=Tryz.underlying167
 a36:=Tryz.isAgg167
 z36:=Tryz.sizeOf167
 v36:=Tryz.zeroValue167
 t41:=Tryz.underlying98
 a41:=Tryz.isAgg98
 z41:=Tryz.sizeOf98
 v41:=Tryz.zeroValue98
 t44:=Tryz.underlying174
 a44:=Tryz.isAgg174
 z44:=Tryz.sizeOf174
 v44:=Tryz.zeroValue174
 t46:=Tryz.underlying176
 a46:=Tryz.isAgg176
 z46:=Tryz.sizeOf176
 v46:=Tryz.zeroValue176
 t53:=Tryz.underlying183
 a53:=Tryz.isAgg183
 z53:=Tryz.sizeOf183
 v53:=Tryz.zeroValue183
 t57:=Tryz.underlying187
 a57:=Tryz.isAgg187
 z57:=Tryz.sizeOf187
 v57:=Tryz.zeroValue187
 t63:=Tryz.underlying203
 a63:=Tryz.isAgg203
 z63:=Tryz.sizeOf203
 v63:=Tryz.zeroValue203
 t64:=Tryz.underlying204
 a64:=Tryz.isAgg204
 z64:=Tryz.sizeOf204
 v64:=Tryz.zeroValue204}
end Go.Proofs
namespace Go.Proofs.YtfmdndhliinhpaaGreatDoor
set_option maxHeartbeats 2000000
set_option maxRecDepth 100000
open Go.RowKit
open Mth
theorem Ji (l:List Int):GR.flat aP l=l.map (Value.int .i64):=by
 induction l with
 |nil=>rfl
 |cons x l ih=>rw [GR.flat_cons,ih];rfl
theorem Bf:∀(y:Int),∀u∈aP y,u.oneCell'=true:=by
 intro y u hu;simp only[aP,List.mem_cons,List.not_mem_nil,or_false] at hu;subst hu;rfl
theorem yA (a:Option Addr) (cap:Nat) (l:List Int) (w:World) (hl:l.length≤1048600) (ha:dM w a l):
 Calls Tryz.prog 32 #[.slice a l.length cap] w fun e w'=>∃v,e= .returned v∧w'.ownsRow w.heap.size 3 1 v l.length (GR.flat aP l)∧Below w.heap.size w w':=by
 obtain⟨i0,hi,hz0,hz1,hz2⟩:=info_parts qA;have q22:∀(w:World) (a:Option Addr) (n c n' c':Nat),(binOp .eql 24 (.slice a n c) (.slice none n' c')).run Tryz.prog w= .ok (.bool a.isNone) w:=fun w a n c n' c'=>Lib.run_eql_slice_nil w _ _ a n c n' c' Tryz.underlying24
 have hlit:(w.alloc (.cells #[] 3)).ownsRow w.heap.size 3 1 (.slice (some ⟨w.heap.size,0,none⟩) 0 0) 0 []:=World.ownsRow_lit (base:=w.heap.size) (e:=3) (size:=1) w #[] 0 (Nat.le_refl _) (by decide) rfl;cases a with
 |none=>
  have hl0:l=[]:=GR.none_nil ha
  subst hl0
  clear ha hlit
  go_enter Tryz.func32,Tryz.ntmps32
  go_wp2_with fail
  go_ret
  exact⟨_,rfl,World.ownsRow_nil _ _ _ _,Below.refl _ _⟩
 |some x=>
  have HN:=hide (GR.At.news aN (by omega) (GR.At.below ha (ay w (.cells #[] 3))))
  clear ha
  go_enter Tryz.func32,Tryz.ntmps32
  go_wp2_with (at_builtin;refine wpList_append_own _ rfl _ _ 24 rfl w.heap.size 3 i0 (.int .i64 0) 1 8 Tryz.underlying24 hi hz0 hz1 hz2 rfl (by decide) _ 0 [] rfl hlit x l.length cap (GR.flat aP l) rfl ?c0 ?c1 ?c2 ?c3 ?c4 ?c5 ?_)
  case c0=>exact GR.flat_length aP 1 aN l
  case c1=>exact HN
  case c2=>exact GR.flat_oneCell Bf l
  case c3=>unfold maxLen;omega
  case c4=>omega
  case c5=>simp
  intro v' w1 hown' hgrow _
  have HO:=hide (show w1.ownsRow w.heap.size 3 1 v' l.length (GR.flat aP l) by simpa using hown')
  have hb:Below w.heap.size w w1:=(ay w _).grown hgrow (by simp) (fun k hk=>by cases hk;exact Nat.le_refl _)
  clear hown' hgrow hlit
  go_wp2
  go_ret
  exact⟨_,rfl,HO,hb⟩
theorem YQ (B:Nat) (v:Value) (l:List Int) (w:World) (hl:l.length≤1048602) (hB:B≤w.heap.size) (h:w.ownsRow B 3 1 v l.length (GR.flat aP l)):
 Calls Tryz.prog 101 #[v] w fun e w'=>e= .returned (.tuple #[])∧w'.ownsRow B 3 1 v l.length (GR.flat aP (GX l))∧Below B w w':=by
 rw [Ji] at h ⊢;rcases h.2 with⟨rfl,hn⟩|⟨g,cap,cur,rfl,hg,hblk,h1,h2,h3,h4⟩
 ·have hl0:l=[]:=List.eq_nil_of_length_eq_zero hn;subst hl0;refine(AnyM.slices_Sort_int_none Tryz.sortL none 0 w).mono ?_;rintro e w' ⟨rfl,rfl⟩;refine⟨rfl,?_,Below.refl _ _⟩;simpa [GX] using World.ownsRow_nil _ _ _ _
 ·rw [Nat.mul_one] at h4;have hH:=holds_of_blockI hblk h4;refine(AnyM.slices_Sort_int Tryz.sortL g 0 cap l w hH (aA hblk) (by omega)).mono ?_;rintro e w' ⟨rfl,n,os,rfl⟩;have hs:(GX l).length=l.length:=lY l;have h5:=ownsRow_sortedI (n:=n) (os:=os) (ts:=GX l) hs hg hblk h1 h2 h3;exact⟨rfl,h5,(Below.refl B w).grown (grownBy_sortedI _) hB (fun k hk=>by cases hk;exact hg)⟩
theorem Bv (n:Nd) (A:bQ) (w:World) (hl:n.kids.length≤1048600) (ha:dM w A.k n.kids):
 Calls Tryz.prog 72 #[fU n A] w fun e w'=>∃v,e= .returned v∧w'.ownsRow w.heap.size 3 1 v (jO n).length (GR.flat aP (GX (jO n)))∧Below w.heap.size w w':=by
 obtain⟨i0,hi,hz0,hz1,hz2⟩:=info_parts qA;have HC:=hide (yA A.k A.ck n.kids (w.alloc (.cells (fO n A) 30)) hl (GR.At.below ha (ay w _)));have kR:=hide (heap_alloc_new w (.cells (fO n A) 30));have K9:Hid ((n.par= -1→jO n=n.kids)∧(¬n.par= -1→jO n=n.kids++[n.par])):=⟨fun h=>by unfold jO;rw [if_pos h,List.append_nil],fun h=>by unfold jO;rw [if_neg h]⟩;have hln:(jO n).length≤1048602:=by unfold jO;split<;>simp<;>omega
 generalize jO n=NB at *;open ajt in exact yu
end Go.Proofs.YtfmdndhliinhpaaGreatDoor
namespace Go.Proofs.YtfmdndhliinhpaaGreatDoor
set_option maxHeartbeats 2000000
set_option maxRecDepth 100000
open Go.RowKit
open Mth
theorem fH {w:World} {g:Nat} {o:Obj} (h:w.heap[g]?=some o):g < w.heap.size:=by
 exact adE
theorem fQ {w w':World} {g:Nat} {o:Obj} (h:w.heap[g]?=some o) (hb:Below w.heap.size w w'):w'.heap[g]?=some o:=by
 rw [hb.block g (fH h)];exact h
theorem cells3 {w:World} {g:Nat} {a0 a1 a2:Value} {t:TypeId} (h:w.heap[g]?=some (.cells #[a0,a1,a2] t (0,0))):
 w.cell? ⟨g,0,none⟩=some a0∧w.cell? ⟨g,1,none⟩=some a1∧w.cell? ⟨g,2,none⟩=some a2:=by
 have hc:∀i,w.cell? ⟨g,i,none⟩=#[a0,a1,a2][i]?:=fun i=>cell_of_row w g i _ t (0,0) h
 exact⟨hc 0,hc 1,hc 2⟩
theorem Fz {w:World} {g:Nat} {a0 a1 a2 a3:Value} {t:TypeId} (h:w.heap[g]?=some (.cells #[a0,a1,a2,a3] t (0,0))):
 w.cell? ⟨g,0,none⟩=some a0∧w.cell? ⟨g,1,none⟩=some a1∧w.cell? ⟨g,2,none⟩=some a2∧w.cell? ⟨g,3,none⟩=some a3:=by
 have hc:∀i,w.cell? ⟨g,i,none⟩=#[a0,a1,a2,a3][i]?:=fun i=>cell_of_row w g i _ t (0,0) h
 exact⟨hc 0,hc 1,hc 2,hc 3⟩
theorem uP {w:World} {g:Nat} {a0 a1 a2 a3 a4 a5:Value} {t:TypeId} (h:w.heap[g]?=some (.cells #[a0,a1,a2,a3,a4,a5] t (0,0))):
 w.cell? ⟨g,0,none⟩=some a0∧w.cell? ⟨g,1,none⟩=some a1∧w.cell? ⟨g,2,none⟩=some a2∧w.cell? ⟨g,3,none⟩=some a3∧w.cell? ⟨g,4,none⟩=some a4∧w.cell? ⟨g,5,none⟩=some a5:=by
 have hc:∀i,w.cell? ⟨g,i,none⟩=#[a0,a1,a2,a3,a4,a5][i]?:=fun i=>cell_of_row w g i _ t (0,0) h
 exact⟨hc 0,hc 1,hc 2,hc 3,hc 4,hc 5⟩
theorem Uk {w:World} {g:Nat} {a0 a1 a2 a3 a4 a5 a6:Value} {t:TypeId} (h:w.heap[g]?=some (.cells #[a0,a1,a2,a3,a4,a5,a6] t (0,0))):
 w.cell? ⟨g,0,none⟩=some a0∧w.cell? ⟨g,1,none⟩=some a1∧w.cell? ⟨g,2,none⟩=some a2∧w.cell? ⟨g,3,none⟩=some a3∧w.cell? ⟨g,4,none⟩=some a4∧w.cell? ⟨g,5,none⟩=some a5∧w.cell? ⟨g,6,none⟩=some a6:=by
 have hc:∀i,w.cell? ⟨g,i,none⟩=#[a0,a1,a2,a3,a4,a5,a6][i]?:=fun i=>cell_of_row w g i _ t (0,0) h
 exact⟨hc 0,hc 1,hc 2,hc 3,hc 4,hc 5,hc 6⟩
theorem tQ (F T:Int) (r:Bool) (w:World) (h:lI F T=r):Calls Tryz.prog 191 #[.agg #[.int .i64 F,.int .i64 T]] w fun e w'=>e= .returned (.bool r)∧Below w.heap.size w w':=by
 subst h;cases h1:pE F
 case' false=>
  have HP:=hide (show lI F T=false by simp[lI,h1])
  have H1:=hide (fun w1=>isNode F false w1 h1)
  clear h1
  go_enter Tryz.func191,Tryz.ntmps191
  go_wp2_with (first|(go_at_call_of 68 F;refine(H1 _).mono ?_;rintro e w1 ⟨rfl,rfl⟩))
  go_ret
  exact⟨aD HP.symm,ay w _⟩
 have H1:=hide (fun w1=>isNode F true w1 h1);cases h2:pE T
 case' false=>
  have HP:=hide (show lI F T=false by simp[lI,h2])
  have H2:=hide (fun w1=>isNode T false w1 h2)
  clear h1 h2
  go_enter Tryz.func191,Tryz.ntmps191
  go_wp2_with (first|(go_at_call_of 68 F;refine(H1 _).mono ?_;rintro e w1 ⟨rfl,rfl⟩)|(go_at_call_of 68 T;refine(H2 _).mono ?_;rintro e w1 ⟨rfl,rfl⟩))
  go_ret
  exact⟨aD HP.symm,ay w _⟩
 have H2:=hide (fun w1=>isNode T true w1 h2);by_cases hft:F=T
 case' pos=>
  have HP:=hide (show lI F T=false by simp[lI,hft])
  clear h1 h2
  subst hft
  go_enter Tryz.func191,Tryz.ntmps191
  go_wp2_with (first|(go_at_call_of 68 F;refine(H1 _).mono ?_;rintro e w1 ⟨rfl,rfl⟩))
  go_ret
  exact⟨aD HP.symm,ay w _⟩
 have HP:=hide (show lI F T=true by simp[lI,h1,h2,hft]);have he:(F != T)=true:=by simp[hft]
 clear h1 h2;go_enter Tryz.func191,Tryz.ntmps191
 go_wp2_with (first|(go_at_call_of 68 F;refine(H1 _).mono ?_;rintro e w1 ⟨rfl,rfl⟩)|(go_at_call_of 68 T;refine(H2 _).mono ?_;rintro e w1 ⟨rfl,rfl⟩))
 go_ret;exact⟨aD (by first|exact HP.symm|exact he.trans HP.symm),ay w _⟩
theorem Hg (F T:Int) (k:ByteArray) (N:Int) (r:Bool) (w:World) (h:(lI F T&&keyOk k.data.toList&&eU N)=r):Calls Tryz.prog 192 #[.agg #[.int .i64 F,.int .i64 T,.string k,.int .i64 N]] w fun e w'=>e= .returned (.bool r)∧Below w.heap.size w w':=by
 have HQ:=hide h;clear h;cases hr:lI F T
 case' false=>
  have HP:=hide (show(lI F T&&keyOk k.data.toList&&eU N)=false by simp[hr])
  have HR:=hide (fun w1=>tQ F T false w1 hr)
  clear hr
  go_enter Tryz.func192,Tryz.ntmps192
  go_wp2_with (first|(go_at_call 191;refine(HR _).mono ?_;rintro e w2 ⟨rfl,hb2⟩;have hA:=fQ (heap_alloc_new w _) hb2;have hB:=(ay w _).trans (hb2.mono (by simp));obtain⟨c0,c1,c2,c3⟩:=Fz hA;have hz:=fH hA;clear hA hb2))
  go_ret
  exact⟨aD (HP.symm.trans HQ),hB⟩
 have HR:=hide (fun w1=>tQ F T true w1 hr);cases hc0:keyOk k.data.toList
 case' false=>
  have HP:=hide (show(lI F T&&keyOk k.data.toList&&eU N)=false by simp[hr,hc0])
  have yZ:=hide (fun w1=>gJ k false w1 hc0)
  clear hr hc0
  go_enter Tryz.func192,Tryz.ntmps192
  go_wp2_with (first|(go_at_call 191;refine(HR _).mono ?_;rintro e w2 ⟨rfl,hb2⟩;have hA:=fQ (heap_alloc_new w _) hb2;have hB:=(ay w _).trans (hb2.mono (by simp));obtain⟨c0,c1,c2,c3⟩:=Fz hA;have hz:=fH hA;clear hA hb2)|(go_at_call_of 71 k;refine(yZ _).mono ?_;rintro e w1 ⟨rfl,rfl⟩))
  go_ret
  exact⟨aD (HP.symm.trans HQ),hB⟩
 have yZ:=hide (fun w1=>gJ k true w1 hc0);cases hc1:eU N
 case' false=>
  have HP:=hide (show(lI F T&&keyOk k.data.toList&&eU N)=false by simp[hr,hc0,hc1])
  have za:=hide (fun w1=>aS N false w1 hc1)
  clear hr hc0 hc1
  go_enter Tryz.func192,Tryz.ntmps192
  go_wp2_with (first|(go_at_call 191;refine(HR _).mono ?_;rintro e w2 ⟨rfl,hb2⟩;have hA:=fQ (heap_alloc_new w _) hb2;have hB:=(ay w _).trans (hb2.mono (by simp));obtain⟨c0,c1,c2,c3⟩:=Fz hA;have hz:=fH hA;clear hA hb2)|(go_at_call_of 71 k;refine(yZ _).mono ?_;rintro e w1 ⟨rfl,rfl⟩)|(go_at_call_of 40 N;refine(za _).mono ?_;rintro e w1 ⟨rfl,rfl⟩))
  go_ret
  exact⟨aD (HP.symm.trans HQ),hB⟩
 have za:=hide (fun w1=>aS N true w1 hc1);have HP:=hide (show(lI F T&&keyOk k.data.toList&&eU N)=true by simp[hr,hc0,hc1]);clear hr hc0 hc1;go_enter Tryz.func192,Tryz.ntmps192
 go_wp2_with (first|(go_at_call 191;refine(HR _).mono ?_;rintro e w2 ⟨rfl,hb2⟩;have hA:=fQ (heap_alloc_new w _) hb2;have hB:=(ay w _).trans (hb2.mono (by simp));obtain⟨c0,c1,c2,c3⟩:=Fz hA;have hz:=fH hA;clear hA hb2)|(go_at_call_of 71 k;refine(yZ _).mono ?_;rintro e w1 ⟨rfl,rfl⟩)|(go_at_call_of 40 N;refine(za _).mono ?_;rintro e w1 ⟨rfl,rfl⟩))
 exact Ub
theorem acG (F T I L:Int) (k:ByteArray) (N:Int) (r:Bool) (w:World) (h:(lI F T&&eU I&&decide (1≤L)&&decide (L≤I)&&keyOk k.data.toList&&eU N)=r):Calls Tryz.prog 193 #[.agg #[.int .i64 F,.int .i64 T,.int .i64 I,.int .i64 L,.string k,.int .i64 N]] w fun e w'=>e= .returned (.bool r)∧Below w.heap.size w w':=by
 have HQ:=hide h;clear h;cases hr:lI F T
 case' false=>
  have HP:=hide (show(lI F T&&eU I&&decide (1≤L)&&decide (L≤I)&&keyOk k.data.toList&&eU N)=false by simp[hr])
  have HR:=hide (fun w1=>tQ F T false w1 hr)
  clear hr
  go_enter Tryz.func193,Tryz.ntmps193
  go_wp2_with (first|(go_at_call 191;refine(HR _).mono ?_;rintro e w2 ⟨rfl,hb2⟩;have hA:=fQ (heap_alloc_new w _) hb2;have hB:=(ay w _).trans (hb2.mono (by simp));obtain⟨c0,c1,c2,c3,c4,c5⟩:=uP hA;have hz:=fH hA;clear hA hb2))
  go_ret
  exact⟨aD (HP.symm.trans HQ),hB⟩
 have HR:=hide (fun w1=>tQ F T true w1 hr);cases hc0:eU I
 case' false=>
  have HP:=hide (show(lI F T&&eU I&&decide (1≤L)&&decide (L≤I)&&keyOk k.data.toList&&eU N)=false by simp[hr,hc0])
  have yZ:=hide (fun w1=>aS I false w1 hc0)
  clear hr hc0
  go_enter Tryz.func193,Tryz.ntmps193
  go_wp2_with (first|(go_at_call 191;refine(HR _).mono ?_;rintro e w2 ⟨rfl,hb2⟩;have hA:=fQ (heap_alloc_new w _) hb2;have hB:=(ay w _).trans (hb2.mono (by simp));obtain⟨c0,c1,c2,c3,c4,c5⟩:=uP hA;have hz:=fH hA;clear hA hb2)|(go_at_call_of 40 I;refine(yZ _).mono ?_;rintro e w1 ⟨rfl,rfl⟩))
  go_ret
  exact⟨aD (HP.symm.trans HQ),hB⟩
 have yZ:=hide (fun w1=>aS I true w1 hc0);by_cases hd1:1≤L
 case' neg=>
  have HP:=hide (show(lI F T&&eU I&&decide (1≤L)&&decide (L≤I)&&keyOk k.data.toList&&eU N)=false by simp[hr,hc0,hd1])
  clear hr hc0
  go_enter Tryz.func193,Tryz.ntmps193
  go_wp2_with (first|(go_at_call 191;refine(HR _).mono ?_;rintro e w2 ⟨rfl,hb2⟩;have hA:=fQ (heap_alloc_new w _) hb2;have hB:=(ay w _).trans (hb2.mono (by simp));obtain⟨c0,c1,c2,c3,c4,c5⟩:=uP hA;have hz:=fH hA;clear hA hb2)|(go_at_call_of 40 I;refine(yZ _).mono ?_;rintro e w1 ⟨rfl,rfl⟩))
  go_ret
  exact⟨aD (HP.symm.trans HQ),hB⟩
 by_cases hd2:L≤I
 case' neg=>
  have HP:=hide (show(lI F T&&eU I&&decide (1≤L)&&decide (L≤I)&&keyOk k.data.toList&&eU N)=false by simp[hr,hc0,hd1,hd2])
  clear hr hc0
  go_enter Tryz.func193,Tryz.ntmps193
  go_wp2_with (first|(go_at_call 191;refine(HR _).mono ?_;rintro e w2 ⟨rfl,hb2⟩;have hA:=fQ (heap_alloc_new w _) hb2;have hB:=(ay w _).trans (hb2.mono (by simp));obtain⟨c0,c1,c2,c3,c4,c5⟩:=uP hA;have hz:=fH hA;clear hA hb2)|(go_at_call_of 40 I;refine(yZ _).mono ?_;rintro e w1 ⟨rfl,rfl⟩))
  go_ret
  exact⟨aD (HP.symm.trans HQ),hB⟩
 cases hc1:keyOk k.data.toList
 case' false=>
  have HP:=hide (show(lI F T&&eU I&&decide (1≤L)&&decide (L≤I)&&keyOk k.data.toList&&eU N)=false by simp[hr,hc0,hd1,hd2,hc1])
  have za:=hide (fun w1=>gJ k false w1 hc1)
  clear hr hc0 hc1
  go_enter Tryz.func193,Tryz.ntmps193
  go_wp2_with (first|(go_at_call 191;refine(HR _).mono ?_;rintro e w2 ⟨rfl,hb2⟩;have hA:=fQ (heap_alloc_new w _) hb2;have hB:=(ay w _).trans (hb2.mono (by simp));obtain⟨c0,c1,c2,c3,c4,c5⟩:=uP hA;have hz:=fH hA;clear hA hb2)|(go_at_call_of 40 I;refine(yZ _).mono ?_;rintro e w1 ⟨rfl,rfl⟩)|(go_at_call_of 71 k;refine(za _).mono ?_;rintro e w1 ⟨rfl,rfl⟩))
  go_ret
  exact⟨aD (HP.symm.trans HQ),hB⟩
 have za:=hide (fun w1=>gJ k true w1 hc1);cases hc2:eU N
 case' false=>
  have HP:=hide (show(lI F T&&eU I&&decide (1≤L)&&decide (L≤I)&&keyOk k.data.toList&&eU N)=false by simp[hr,hc0,hd1,hd2,hc1,hc2])
  have oH:=hide (fun w1=>aS N false w1 hc2)
  clear hr hc0 hc1 hc2
  go_enter Tryz.func193,Tryz.ntmps193
  go_wp2_with (first|(go_at_call 191;refine(HR _).mono ?_;rintro e w2 ⟨rfl,hb2⟩;have hA:=fQ (heap_alloc_new w _) hb2;have hB:=(ay w _).trans (hb2.mono (by simp));obtain⟨c0,c1,c2,c3,c4,c5⟩:=uP hA;have hz:=fH hA;clear hA hb2)|(go_at_call_of 40 I;refine(yZ _).mono ?_;rintro e w1 ⟨rfl,rfl⟩)|(go_at_call_of 71 k;refine(za _).mono ?_;rintro e w1 ⟨rfl,rfl⟩)|(go_at_call_of 40 N;refine(oH _).mono ?_;rintro e w1 ⟨rfl,rfl⟩))
  go_ret
  exact⟨aD (HP.symm.trans HQ),hB⟩
 have oH:=hide (fun w1=>aS N true w1 hc2);have HP:=hide (show(lI F T&&eU I&&decide (1≤L)&&decide (L≤I)&&keyOk k.data.toList&&eU N)=true by simp[hr,hc0,hd1,hd2,hc1,hc2]);clear hr hc0 hc1 hc2;go_enter Tryz.func193,Tryz.ntmps193
 go_wp2_with (first|(go_at_call 191;refine(HR _).mono ?_;rintro e w2 ⟨rfl,hb2⟩;have hA:=fQ (heap_alloc_new w _) hb2;have hB:=(ay w _).trans (hb2.mono (by simp));obtain⟨c0,c1,c2,c3,c4,c5⟩:=uP hA;have hz:=fH hA;clear hA hb2)|(go_at_call_of 40 I;refine(yZ _).mono ?_;rintro e w1 ⟨rfl,rfl⟩)|(go_at_call_of 71 k;refine(za _).mono ?_;rintro e w1 ⟨rfl,rfl⟩)|(go_at_call_of 40 N;refine(oH _).mono ?_;rintro e w1 ⟨rfl,rfl⟩))
 exact Ub
theorem IZ (F T I:Int) (r:Bool) (w:World) (h:(lI F T&&eU I)=r):Calls Tryz.prog 194 #[.agg #[.int .i64 F,.int .i64 T,.int .i64 I]] w fun e w'=>e= .returned (.bool r)∧Below w.heap.size w w':=by
 have HQ:=hide h;clear h;cases hr:lI F T
 case' false=>
  have HP:=hide (show(lI F T&&eU I)=false by simp[hr])
  have HR:=hide (fun w1=>tQ F T false w1 hr)
  clear hr
  go_enter Tryz.func194,Tryz.ntmps194
  go_wp2_with (first|(go_at_call 191;refine(HR _).mono ?_;rintro e w2 ⟨rfl,hb2⟩;have hA:=fQ (heap_alloc_new w _) hb2;have hB:=(ay w _).trans (hb2.mono (by simp));obtain⟨c0,c1,c2⟩:=cells3 hA;have hz:=fH hA;clear hA hb2))
  go_ret
  exact⟨aD (HP.symm.trans HQ),hB⟩
 have HR:=hide (fun w1=>tQ F T true w1 hr);cases hc0:eU I
 case' false=>
  have HP:=hide (show(lI F T&&eU I)=false by simp[hr,hc0])
  have yZ:=hide (fun w1=>aS I false w1 hc0)
  clear hr hc0
  go_enter Tryz.func194,Tryz.ntmps194
  go_wp2_with (first|(go_at_call 191;refine(HR _).mono ?_;rintro e w2 ⟨rfl,hb2⟩;have hA:=fQ (heap_alloc_new w _) hb2;have hB:=(ay w _).trans (hb2.mono (by simp));obtain⟨c0,c1,c2⟩:=cells3 hA;have hz:=fH hA;clear hA hb2)|(go_at_call_of 40 I;refine(yZ _).mono ?_;rintro e w1 ⟨rfl,rfl⟩))
  go_ret
  exact⟨aD (HP.symm.trans HQ),hB⟩
 have yZ:=hide (fun w1=>aS I true w1 hc0);have HP:=hide (show(lI F T&&eU I)=true by simp[hr,hc0]);clear hr hc0;go_enter Tryz.func194,Tryz.ntmps194
 go_wp2_with (first|(go_at_call 191;refine(HR _).mono ?_;rintro e w2 ⟨rfl,hb2⟩;have hA:=fQ (heap_alloc_new w _) hb2;have hB:=(ay w _).trans (hb2.mono (by simp));obtain⟨c0,c1,c2⟩:=cells3 hA;have hz:=fH hA;clear hA hb2)|(go_at_call_of 40 I;refine(yZ _).mono ?_;rintro e w1 ⟨rfl,rfl⟩))
 exact Ub
end Go.Proofs.YtfmdndhliinhpaaGreatDoor
namespace Go.Proofs.YtfmdndhliinhpaaGreatDoor
open Go.RowKit
theorem bX {w:World} {g:Nat} {a0 a1 a2 a3 a4 a5 a6 a7 a8 a9 a10:Value} {t:TypeId} (h:w.heap[g]?=some (.cells #[a0,a1,a2,a3,a4,a5,a6,a7,a8,a9,a10] t (0,0))):
 (w.cell? ⟨g,0,none⟩=some a0∧w.cell? ⟨g,1,none⟩=some a1∧w.cell? ⟨g,2,none⟩=some a2∧w.cell? ⟨g,3,none⟩=some a3∧w.cell? ⟨g,4,none⟩=some a4∧w.cell? ⟨g,5,none⟩=some a5∧w.cell? ⟨g,6,none⟩=some a6∧w.cell? ⟨g,7,none⟩=some a7∧w.cell? ⟨g,8,none⟩=some a8∧w.cell? ⟨g,9,none⟩=some a9∧w.cell? ⟨g,10,none⟩=some a10)∧(w.frozen? ⟨g,0,none⟩=false∧w.frozen? ⟨g,1,none⟩=false∧w.frozen? ⟨g,2,none⟩=false∧w.frozen? ⟨g,3,none⟩=false∧w.frozen? ⟨g,4,none⟩=false∧w.frozen? ⟨g,5,none⟩=false∧w.frozen? ⟨g,6,none⟩=false∧w.frozen? ⟨g,7,none⟩=false∧w.frozen? ⟨g,8,none⟩=false∧w.frozen? ⟨g,9,none⟩=false∧w.frozen? ⟨g,10,none⟩=false):=by
 have hf:∀i,w.frozen? ⟨g,i,none⟩=false:=fun i=>by unfold World.frozen?;rw [h];simp
 have hc:∀i,w.cell? ⟨g,i,none⟩=#[a0,a1,a2,a3,a4,a5,a6,a7,a8,a9,a10][i]?:=fun i=>cell_of_row w g i _ t (0,0) h
 exact⟨⟨hc 0,hc 1,hc 2,hc 3,hc 4,hc 5,hc 6,hc 7,hc 8,hc 9,hc 10⟩,hf 0,hf 1,hf 2,hf 3,hf 4,hf 5,hf 6,hf 7,hf 8,hf 9,hf 10⟩
theorem iy {w:World} {g:Nat} {a0 a1 a2 a3 a4 a5 a6 a7 a8 a9 a10 b0 b1 b2 b3 b4 b5 b6 b7 b8 b9 b10:Value} {t:TypeId} (h:w.heap[g]?=some (.cells #[a0,a1,a2,a3,a4,a5,a6,a7,a8,a9,a10] t (0,0))):(((((((((((w.setCell ⟨g,0,none⟩ b0).setCell ⟨g,1,none⟩ b1).setCell ⟨g,2,none⟩ b2).setCell ⟨g,3,none⟩ b3).setCell ⟨g,4,none⟩ b4).setCell ⟨g,5,none⟩ b5).setCell ⟨g,6,none⟩ b6).setCell ⟨g,7,none⟩ b7).setCell ⟨g,8,none⟩ b8).setCell ⟨g,9,none⟩ b9).setCell ⟨g,10,none⟩ b10).heap[g]?=some (.cells #[b0,b1,b2,b3,b4,b5,b6,b7,b8,b9,b10] t (0,0)):=
 GR.setW_blk [b0,b1,b2,b3,b4,b5,b6,b7,b8,b9,b10] (o:=0) (xs:=[a0,a1,a2,a3,a4,a5,a6,a7,a8,a9,a10]) h
theorem dV {a w:World} {B g:Nat} {b0 b1 b2 b3 b4 b5 b6 b7 b8 b9 b10:Value} (h:Below B a w) (hg:B≤g):Below B a (((((((((((w.setCell ⟨g,0,none⟩ b0).setCell ⟨g,1,none⟩ b1).setCell ⟨g,2,none⟩ b2).setCell ⟨g,3,none⟩ b3).setCell ⟨g,4,none⟩ b4).setCell ⟨g,5,none⟩ b5).setCell ⟨g,6,none⟩ b6).setCell ⟨g,7,none⟩ b7).setCell ⟨g,8,none⟩ b8).setCell ⟨g,9,none⟩ b9).setCell ⟨g,10,none⟩ b10):=
 GR.setW_below hg [b0,b1,b2,b3,b4,b5,b6,b7,b8,b9,b10] (o:=0) h
theorem PV {w:World} {g g':Nat} {b0 b1 b2 b3 b4 b5 b6 b7 b8 b9 b10:Value} (hne:g'≠g):(((((((((((w.setCell ⟨g,0,none⟩ b0).setCell ⟨g,1,none⟩ b1).setCell ⟨g,2,none⟩ b2).setCell ⟨g,3,none⟩ b3).setCell ⟨g,4,none⟩ b4).setCell ⟨g,5,none⟩ b5).setCell ⟨g,6,none⟩ b6).setCell ⟨g,7,none⟩ b7).setCell ⟨g,8,none⟩ b8).setCell ⟨g,9,none⟩ b9).setCell ⟨g,10,none⟩ b10).heap[g']?=w.heap[g']?:=
 GR.setW_other hne [b0,b1,b2,b3,b4,b5,b6,b7,b8,b9,b10] (o:=0)
theorem Fw {P:Program} {fn:Func} {Q:Ending→World→Prop} {x:Exit} {act:Act} {W:World} (h:∀W',W'=W→bodyPost P fn Q x act W'):bodyPost P fn Q x act W:=h W rfl
theorem jL (w:World) (a b:Obj):((w.alloc a).alloc b).heap[w.heap.size]?=some a∧((w.alloc a).alloc b).heap[w.heap.size+1]?=some b∧Below w.heap.size w ((w.alloc a).alloc b):=by
 have e1:(w.alloc a).heap.size=w.heap.size+1:=by simp
 have h4:=heap_alloc_new (w.alloc a) b;have h6:=Below.heap_alloc (w.alloc a) b w.heap.size (by omega);rw [e1] at h4;exact⟨h6.trans (heap_alloc_new w a),h4,(ay w a).alloc (by omega) b⟩
end Go.Proofs.YtfmdndhliinhpaaGreatDoor
