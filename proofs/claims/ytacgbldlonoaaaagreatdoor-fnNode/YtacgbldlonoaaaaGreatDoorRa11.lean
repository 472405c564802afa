/- Parts. -/
import Derived.Test.YtacgbldlonoaaaaGreatDoorRa10
namespace Go.Proofs.YtacgbldlonoaaaaGreatDoor
set_option maxHeartbeats 4000000
set_option maxRecDepth 100000
open Go.RowKit
open Mth
namespace Mth
def upTo (n:Nat):List Int:=(List.range n).map Int.ofNat
theorem AJ (n:Nat):(upTo n).Pairwise (· < ·):=by
 unfold upTo;rw [List.pairwise_map];exact List.pairwise_lt_range.imp (fun {a b} h=>by show(a:Int) < (b:Int);omega)
theorem Jh (n:Nat) (x:Int):x∈upTo n↔0≤x∧x < n:=by
 unfold upTo;rw [List.mem_map];constructor
 ·rintro⟨a,ha,rfl⟩;have:=List.mem_range.1 ha;show 0≤(a:Int)∧(a:Int) < n
  omega
 ·intro h;exact⟨x.toNat,List.mem_range.2 (by omega),by show((x.toNat:Nat):Int)=x;omega⟩
theorem Sq {id par:Int} {l:List Int} (h:fT (iE id par) gJ l=true):l.length≤30:=by
 obtain⟨h1,h2⟩:=(oN (r:=gJ) kH).1 h
 have h3:=JR (upTo 30) l (h2.imp (fun {a b} h=>of_decide_eq_true h)) (AJ 30) (fun x hx=>by
  have h4:=h1 x hx
  unfold iE nY at h4
  simp only[Bool.and_eq_true,decide_eq_true_eq] at h4
  rw [Jh]
  omega)
 simpa [upTo] using h3
def Ac (n:Nd):Bool:=nY n.id&&(decide (n.par= -1)||(nY n.par&&decide (n.par≠n.id)))&&fT (iE n.id n.par) gJ n.kids
theorem Kw (n:Nd):Ac n=bQ n:=by
 unfold Ac bQ;cases hc:fT (iE n.id n.par) gJ n.kids
 ·simp
 ·rw [decide_eq_true (Sq hc)];cases hi:nY n.id
  ·simp
  ·have h0:0≤n.id∧n.id≤29:=of_decide_eq_true hi;by_cases h1:n.par= -1
   ·have h2:n.par≠n.id:=by omega
    rw [decide_eq_true h1,decide_eq_true h2,decide_eq_true (show -1≤n.par∧n.par≤29 by omega)];rfl
   ·rw [decide_eq_false h1];unfold nY;by_cases h2:0≤n.par∧n.par≤29
    ·rw [decide_eq_true h2,decide_eq_true (show -1≤n.par∧n.par≤29 by omega)];simp
    ·rw [decide_eq_false h2,decide_eq_false (show¬(-1≤n.par∧n.par≤29) by omega)];simp
theorem VL {id par x:Int} (h:iE id par x=true): -1 < x:=by
 unfold iE nY at h;exact QT
theorem R4 {low x:Int} (h:wH low x=true):low - 1 < x:=by
 unfold wH at h;simp only[decide_eq_true_eq] at h;omega
theorem Mr {n:Nd} {s:jm} (h:qy n s=true):0 < s.i:=by
 unfold qy at h;exact QT
theorem Ms {n:Nd} {s:Rq} (h:oo n s=true):n.old < s.no:=by
 unfold oo at h;exact QT
end Mth
theorem Kg (n:Nd) (A:bE) (w:World) (hl:n.kids.length≤1048600) (ha:dK w A.k n.kids):
 Calls Tryz.prog 52 #[gu n A] w fun e w'=>e= .returned (.bool (Ac n))∧Below w.heap.size w w':=by
 have HA:=hide ha;have HD:Hid (Ac n=(nY n.id&&(decide (n.par= -1)||(nY n.par&&decide (n.par≠n.id)))&&fT (iE n.id n.par) gJ n.kids)):=rfl;have rX:=hide (fun k h=>lQ (iE n.id n.par) gJ n.kids k h);have iN:=hide (fun k h=>uS (iE n.id n.par) (fun x=>x) (-1) (fun x=>VL) n.kids k h);have uG:=hide (fun k h=>pE (fun x:Int=>x) (-1) n.kids k h);have Le:=hide (fun x=>show iE n.id n.par x=(nY x&&decide (x≠n.id)&&decide (x≠n.par)) from rfl);have jy:=hide (heap_alloc_new w (.cells (fZ n A) 30));generalize Ac n=TT at *;generalize iE n.id n.par=KB at *;open agd in exact wS
theorem Hq (s:Sn) (b:Option Addr) (c:Nat) (w:World) (hl:s.ids.length≤1048600) (ha:dK w b s.ids):
 Calls Tryz.prog 132 #[.agg #[.int .i64 s.f,.int .i64 s.l,.slice b s.ids.length c]] w fun e w'=>e= .returned (.bool (qz s))∧Below w.heap.size w w':=by
 obtain⟨fr,lo,ids⟩:=s;dsimp only at hl ha ⊢;have HA:=hide ha;have HD:Hid (qz ⟨fr,lo,ids⟩=(eD lo&&decide (ids.length≤40)&&fT (wH lo) gJ ids)):=rfl;have rX:=hide (fun k h=>lQ (wH lo) gJ ids k h);have iN:=hide (fun k h=>uS (wH lo) (fun x=>x) (lo - 1) (fun x=>R4) ids k h);have uG:=hide (fun k h=>pE (fun x:Int=>x) (lo - 1) ids k h);have TQ:=hide (fun k (h:fT (wH lo) gJ (ids.take k)=true)=>wT (key:=fun x=>x) (y0:=lo - 1) (fun x=>R4) h);have Le:=hide (fun x=>show wH lo x=decide (lo≤x∧x≤1000000000) from rfl);generalize qz ⟨fr,lo,ids⟩=TT at *;generalize wH lo=KB at *;clear ha;cases h1:eD lo
 case' false=>
  have HP:Hid (TT=false):=by rw [ah HD,h1];rfl
  have H1:=hide (fun w1=>aP lo false w1 h1)
  clear HD h1
  go_enter Tryz.func132,Tryz.ntmps132
  go_wp2_with (go_at_call 54;refine(H1 _).mono ?_;rintro e w1 ⟨rfl,rfl⟩)
  go_ret
  exact⟨aD HP.symm,au w _⟩
 have H1:=hide (fun w1=>aP lo true w1 h1);have hlo:1≤lo∧lo≤1000000000:=of_decide_eq_true h1;obtain⟨hlo1,hlo2⟩:=hlo;by_cases h2:ids.length≤40
 case' neg=>
  have HP:=hide (show TT=false by rw [ah HD,decide_eq_false h2];simp)
  have hb2:decide ((40:Int) < ids.length)=true:=decide_eq_true (by omega)
  clear HD h1
  go_enter Tryz.func132,Tryz.ntmps132
  go_wp2_with (go_at_call 54;refine(H1 _).mono ?_;rintro e w1 ⟨rfl,rfl⟩)
  go_ret
  exact⟨aD HP.symm,au w _⟩
 have hb2:decide ((40:Int) < ids.length)=false:=decide_eq_false (by omega);have ku:Hid (TT=fT KB gJ ids):=by rw [ah HD,h1,decide_eq_true h2];rfl
 clear HD h1;go_enter Tryz.func132,Tryz.ntmps132
 go_wp2_with (go_at_call 54;refine(H1 _).mono ?_;rintro e w1 ⟨rfl,rfl⟩)
 go_loop [3,22] (fun lv i=>∃(k:Nat) (y:Int),k≤ids.length∧i= .int .i64 k∧lv= .int .i64 y∧y=sK (fun x=>x) (lo - 1) (ids.take k)∧fT KB gJ (ids.take k)=true) (fun _ i=>ids.length - (intOf i).toNat)
 case atStart=>exact⟨0,lo - 1,Nat.zero_le _,rfl,by go_num,rfl,rfl⟩
 case round=>
  obtain⟨k,y,hk,rfl,rfl,hy,hall⟩:=hrel;have kV:=hide hall;have HY:=hide hy;have hy0:lo - 1≤y:=by rw [hy];exact TQ k hall
  clear hall hy;by_cases hlt:k < ids.length
  case' neg=>
   have hke:k=ids.length:=by omega
   subst hke
   have hnlt:decide ((ids.length:Int) < (ids.length:Int))=false:=by simp
   have HF:Hid (TT=true):=by
    exact Nl
   go_wp2_with fail
   go_ret
   exact⟨aD HF.symm,au w _⟩
  obtain⟨g,off,rfl,hgw,q0⟩:=dK.one (GR.At.below HA (au w (.cells #[.int .i64 fr,.int .i64 lo,.slice b ids.length c] 90))) k hlt;have HBAD:Hid (fT KB gJ (ids.take (k+1))=false→TT=false):=fun h=>ku.trans (rX _ h)
  have fF:Hid (fT KB gJ (ids.take (k+1))=(KB ids[k]&&decide (y < ids[k]))):=by
   exact anx
  have yL:=hide (uG k hlt);have yt:=hide (Le ids[k]);clear iN uG rX Le TQ;generalize ids[k]=x at *;by_cases h2:y < x
  case' neg=>
   have hb3:decide (x≤y)=true:=decide_eq_true (by omega)
   have HV:=hide (HBAD (by rw [ah fF,ah yt];rw [decide_eq_false h2];simp))
   clear HBAD fF yt
   go_wp2_with (fail)
   go_ret
   exact⟨aD HV.symm,au w _⟩
  have hb3:decide (x≤y)=false:=decide_eq_false (by omega);cases h3:mW x
  case' false=>
   have H3:=hide (fun w1=>iZ x false w1 h3)
   have h4:¬(0≤x∧x≤1000000000):=of_decide_eq_false h3
   have HV:=hide (HBAD (by rw [ah fF,ah yt];rw [decide_eq_false (show¬(lo≤x∧x≤1000000000) by omega)];rfl))
   clear HBAD fF yt h3 h4
   go_wp2_with (go_at_call 133;refine(H3 _).mono ?_;rintro e w1 ⟨rfl,rfl⟩)
   go_ret
   exact⟨aD HV.symm,au w _⟩
  have H3:=hide (fun w1=>iZ x true w1 h3);have h4:0≤x∧x≤1000000000:=of_decide_eq_true h3;have HV:=hide (show fT KB gJ (ids.take (k+1))=true by rw [ah fF,ah yt,decide_eq_true (show lo≤x∧x≤1000000000 by omega),decide_eq_true h2];rfl);clear HBAD fF yt h3 h4;go_wp2_with (go_at_call 133;refine(H3 _).mono ?_;rintro e w1 ⟨rfl,rfl⟩)
  exact Zj
end Go.Proofs.YtacgbldlonoaaaaGreatDoor
namespace Go.Proofs.YtacgbldlonoaaaaGreatDoor
set_option maxHeartbeats 4000000
set_option maxRecDepth 100000
open Go.RowKit
open Mth
theorem Og (n:Nd) (A:bE) (w:World) (hz:eH n 1048600) (hp:bQ n=true) (ha:dQ w A n):
 Calls Tryz.prog 55 #[gu n A] w fun e w'=>e= .returned (.bool (nZ n))∧Below w.heap.size w w':=by
 have HA:=hide ha;have HD:Hid (nZ n=(decide (n.out.length≤40)&&fT (qy n) (fun s t=>gJ s.i t.i) n.out)):=rfl;have rX:=hide (fun k h=>lQ (qy n) (fun s t=>gJ s.i t.i) n.out k h);have iN:=hide (fun k h=>uS (qy n) (fun s=>s.i) 0 (fun x=>Mr) n.out k h);have uG:=hide (fun k h=>pE (fun s:jm=>s.i) 0 n.out k h);have TQ:=hide (fun k (h:fT (qy n) (fun s t=>gJ s.i t.i) (n.out.take k)=true)=>wT (key:=fun s=>s.i) (y0:=0) (fun x=>Mr) h);have Le:=hide (fun s=>show qy n s=(decide (1≤s.i∧s.i≤n.next - 1)&&dB n s.t&&keyOk s.k.data.toList&&eD s.n) from rfl)
 have Js:Hid (∀x w1,Below w.heap.size w w1→Calls Tryz.prog 130 #[gu n A,.int .i64 x] w1 fun e w'=>e= .returned (.bool (dB n x))∧Below w1.heap.size w1 w'):=fun x w1 hb=>by
  have h:=Hl n A x w1 hz.k (ha.below hb).k
  rw [near_same hp] at h
  exact h
 have hlo:=hz.o;have jy:=hide (heap_alloc_new w (.cells (fZ n A) 30));generalize nZ n=TT at *;generalize qy n=KB at *;generalize dB n=NN at *;clear ha hz hp;open agh in exact wS
theorem Kh (n:Nd) (A:bE) (w:World) (hz:eH n 1048600) (ha:dQ w A n):
 Calls Tryz.prog 57 #[gu n A] w fun e w'=>e= .returned (.bool (fQ n))∧Below w.heap.size w w':=by
 have HA:=hide ha;have HD:Hid (fQ n=(mW n.old&&decide (n.reqs.length≤30)&&fT (oo n) (fun s t=>gJ s.no t.no) n.reqs)):=rfl;have rX:=hide (fun k h=>lQ (oo n) (fun s t=>gJ s.no t.no) n.reqs k h);have iN:=hide (fun k h=>uS (oo n) (fun s=>s.no) n.old (fun x=>Ms) n.reqs k h);have uG:=hide (fun k h=>pE (fun s:Rq=>s.no) n.old n.reqs k h);have TQ:=hide (fun k (h:fT (oo n) (fun s t=>gJ s.no t.no) (n.reqs.take k)=true)=>wT (key:=fun s=>s.no) (y0:=n.old) (fun x=>Ms) h);have Le:=hide (fun s=>show oo n s=(decide (n.old+1≤s.no∧s.no≤1000000000)&&keyOk s.k.data.toList&&eD s.n&&decide (0≤s.s∧s.s≤2)) from rfl);have hlo:=hz.r;have jy:=hide (heap_alloc_new w (.cells (fZ n A) 30));generalize fQ n=TT at *;generalize oo n=KB at *;clear ha hz;open agf in exact wS
end Go.Proofs.YtacgbldlonoaaaaGreatDoor
namespace Go.Proofs
open Go.Shelf
def Tryz.sortL_ren:Go.Shelf.Ren:=⟨fun|5=>123|8=>175|7=>174|19=>210|20=>211|10=>201|11=>202|12=>203|13=>204|14=>205|15=>206|16=>207|17=>208|18=>209|30=>235|31=>236|32=>237|33=>238|34=>239|35=>240|40=>254|n=>n,fun|23=>24|25=>3|3=>3|32=>203|22=>24|0=>0|44=>168|46=>243|4=>4|36=>235|35=>234|41=>195|5=>5|9=>9|53=>270|57=>274|63=>290|64=>209|n=>n,fun|n=>n⟩
theorem Tryz.sortL:Go.Proofs.SlLaysM.n5 Tryz.prog Tryz.sortL_ren:={
 mixed:=by kernel_rfl
 f5:=⟨Tryz.f123.name,by decide,Tryz.func123.trans (congrArg some (by kernel_rfl))⟩
 f7:=⟨Tryz.f174.name,by decide,Tryz.func174.trans (congrArg some (by kernel_rfl))⟩
 f8:=Tryz.func175.trans (congrArg some (by kernel_rfl))
 f10:=⟨Tryz.f201.name,by decide,Tryz.func201.trans (congrArg some (by kernel_rfl))⟩
 f11:=⟨Tryz.f202.name,by decide,Tryz.func202.trans (congrArg some (by kernel_rfl))⟩
 f12:=⟨Tryz.f203.name,by decide,Tryz.func203.trans (congrArg some (by kernel_rfl))⟩
 f13:=⟨Tryz.f204.name,by decide,Tryz.func204.trans (congrArg some (by kernel_rfl))⟩
 f14:=⟨Tryz.f205.name,by decide,Tryz.func205.trans (congrArg some (by kernel_rfl))⟩
 f15:=⟨Tryz.f206.name,by decide,Tryz.func206.trans (congrArg some (by kernel_rfl))⟩
 f16:=⟨Tryz.f207.name,by decide,Tryz.func207.trans (congrArg some (by kernel_rfl))⟩
 f17:=⟨Tryz.f208.name,by decide,Tryz.func208.trans (congrArg some (by kernel_rfl))⟩
 f18:=⟨Tryz.f209.name,by decide,Tryz.func209.trans (congrArg some (by kernel_rfl))⟩
 f19:=Tryz.func210.trans (congrArg some (by kernel_rfl))
 f20:=Tryz.func211.trans (congrArg some (by kernel_rfl))
 f30:=⟨Tryz.f235.name,by decide,Tryz.func235.trans (congrArg some (by kernel_rfl))⟩
 f31:=Tryz.func236.trans (congrArg some (by kernel_rfl))
 f32:=Tryz.func237.trans (congrArg some (by kernel_rfl))
 f33:=⟨Tryz.f238.name,by decide,Tryz.func238.trans (congrArg some (by kernel_rfl))⟩
 f34:=⟨Tryz.f239.name,by decide,Tryz.func239.trans (congrArg some (by kernel_rfl))⟩
 f35:=⟨Tryz.f240.name,by decide,Tryz.func240.trans (congrArg some (by kernel_rfl))⟩
 f40:=⟨Tryz.f254.name,by decide,Tryz.func254.trans (congrArg some (by kernel_rfl))⟩
 t0:=Tryz.underlying0
 a0:=Tryz.isAgg0
 z0:=Tryz.sizeOf0
 v0:=Tryz.zeroValue0
 t3:=Tryz.underlying3
 a3:=Tryz.isAgg3
 z3:=Tryz.sizeOf3
 v3:=Tryz.zeroValue3
 t4:=Tryz.underlying4
 a4:=Tryz.isAgg4
 z4:=Tryz.sizeOf4
 v4:=Tryz.zeroValue4
 t5:=Tryz.underlying5
 a5:=Tryz.isAgg5
 z5:=Tryz.sizeOf5
 v5:=Tryz.zeroValue5
 t9:=Tryz.underlying9
 a9:=Tryz.isAgg9
 z9:=Tryz.sizeOf9
 v9:=Tryz.zeroValue9
 t22:=Tryz.underlying24
 a22:=Tryz.isAgg24
 z22:=Tryz.sizeOf24
 v22:=Tryz.zeroValue24
 t23:=Tryz.underlying24
 a23:=Tryz.isAgg24
 z23:=Tryz.sizeOf24
 v23:=Tryz.zeroValue24
 t25:=Tryz.underlying3
 a25:=Tryz.isAgg3
 z25:=Tryz.sizeOf3
 v25:=Tryz.zeroValue3
 t32:=Tryz.underlying203
 a32:=Tryz.isAgg203
 z32:=Tryz.sizeOf203
 v32:=Tryz.zeroValue203
 t35:=Tryz.underlying234
 a35:=Tryz.isAgg234
 z35:=Tryz.sizeOf234
 v35:=Tryz.zeroValue234
 t36:=Tryz.underlying235
 a36:=Tryz.isAgg235
 z36:=Tryz.sizeOf235
 v36:=Tryz.zeroValue235
 t41:=Tryz.underlying195
 a41:=Tryz.isAgg195
 z41:=Tryz.sizeOf195
 v41:=Tryz.zeroValue195
 t44:=Tryz.underlying168
 a44:=Tryz.isAgg168
 z44:=Tryz.sizeOf168
 v44:=Tryz.zeroValue168
 t46:=Tryz.underlying243
 a46:=Tryz.isAgg243
 z46:=Tryz.sizeOf243
 v46:=Tryz.zeroValue243
 t53:=Tryz.underlying270
 a53:=Tryz.isAgg270
 z53:=Tryz.sizeOf270
 v53:=Tryz.zeroValue270
 t57:=Tryz.underlying274
 a57:=Tryz.isAgg274
 z57:=Tryz.sizeOf274
 v57:=Tryz.zeroValue274
 t63:=Tryz.underlying290
 a63:=Tryz.isAgg290
 z63:=Tryz.sizeOf290
 v63:=Tryz.zeroValue290
 t64:=Tryz.underlying209
 a64:=Tryz.isAgg209
 z64:=Tryz.sizeOf209
 v64:=Tryz.zeroValue209}
end Go.Proofs
namespace Go.Proofs.YtacgbldlonoaaaaGreatDoor
set_option maxHeartbeats 2000000
set_option maxRecDepth 100000
open Go.RowKit
open Mth
theorem GH (l:List Int):GR.flat aR l=l.map (Value.int .i64):=by
 induction l with
 |nil=>rfl
 |cons x l ih=>rw [GR.flat_cons,ih];rfl
theorem JX:∀(y:Int),∀u∈aR y,u.oneCell'=true:=by
 intro y u hu;simp only[aR,List.mem_cons,List.not_mem_nil,or_false] at hu;subst hu;rfl
theorem rE (a:Option Addr) (cap:Nat) (l:List Int) (w:World) (hl:l.length≤1048600) (ha:dK w a l):
 Calls Tryz.prog 45 #[.slice a l.length cap] w fun e w'=>∃v,e= .returned v∧w'.ownsRow w.heap.size 3 1 v l.length (GR.flat aR l)∧Below w.heap.size w w':=by
 obtain⟨i0,hi,hz0,hz1,hz2⟩:=info_parts vD;have q22:∀(w:World) (a:Option Addr) (n c n' c':Nat),(binOp .eql 24 (.slice a n c) (.slice none n' c')).run Tryz.prog w= .ok (.bool a.isNone) w:=fun w a n c n' c'=>Lib.run_eql_slice_nil w _ _ a n c n' c' Tryz.underlying24
 have hlit:(w.alloc (.cells #[] 3)).ownsRow w.heap.size 3 1 (.slice (some ⟨w.heap.size,0,none⟩) 0 0) 0 []:=World.ownsRow_lit (base:=w.heap.size) (e:=3) (size:=1) w #[] 0 (Nat.le_refl _) (by decide) rfl;cases a with
 |none=>
  have hl0:l=[]:=GR.none_nil ha
  subst hl0
  clear ha hlit
  go_enter Tryz.func45,Tryz.ntmps45
  go_wp2_with fail
  go_ret
  exact⟨_,rfl,World.ownsRow_nil _ _ _ _,Below.refl _ _⟩
 |some x=>
  have HN:=hide (GR.At.news aN (by omega) (GR.At.below ha (au w (.cells #[] 3))))
  clear ha
  go_enter Tryz.func45,Tryz.ntmps45
  go_wp2_with (at_builtin;refine wpList_append_own _ rfl _ _ 24 rfl w.heap.size 3 i0 (.int .i64 0) 1 8 Tryz.underlying24 hi hz0 hz1 hz2 rfl (by decide) _ 0 [] rfl hlit x l.length cap (GR.flat aR l) rfl ?c0 ?c1 ?c2 ?c3 ?c4 ?c5 ?_)
  case c0=>exact GR.flat_length aR 1 aN l
  case c1=>exact HN
  case c2=>exact GR.flat_oneCell JX l
  case c3=>unfold maxLen;omega
  case c4=>omega
  case c5=>simp
  intro v' w1 hown' hgrow _
  have HO:=hide (show w1.ownsRow w.heap.size 3 1 v' l.length (GR.flat aR l) by simpa using hown')
  have hb:Below w.heap.size w w1:=(au w _).grown hgrow (by simp) (fun k hk=>by cases hk;exact Nat.le_refl _)
  clear hown' hgrow hlit
  go_wp2
  go_ret
  exact⟨_,rfl,HO,hb⟩
theorem Wh (B:Nat) (v:Value) (l:List Int) (w:World) (hl:l.length≤1048602) (hB:B≤w.heap.size) (h:w.ownsRow B 3 1 v l.length (GR.flat aR l)):
 Calls Tryz.prog 123 #[v] w fun e w'=>e= .returned (.tuple #[])∧w'.ownsRow B 3 1 v l.length (GR.flat aR (Dt l))∧Below B w w':=by
 rw [GH] at h ⊢;rcases h.2 with⟨rfl,hn⟩|⟨g,cap,cur,rfl,hg,hblk,h1,h2,h3,h4⟩
 ·have hl0:l=[]:=List.eq_nil_of_length_eq_zero hn;subst hl0;refine(AnyM.slices_Sort_int_none Tryz.sortL none 0 w).mono ?_;rintro e w' ⟨rfl,rfl⟩;refine⟨rfl,?_,Below.refl _ _⟩;simpa [Dt] using World.ownsRow_nil _ _ _ _
 ·rw [Nat.mul_one] at h4;have hH:=holds_of_blockI hblk h4;refine(AnyM.slices_Sort_int Tryz.sortL g 0 cap l w hH (aA hblk) (by omega)).mono ?_;rintro e w' ⟨rfl,n,os,rfl⟩;have hs:(Dt l).length=l.length:=kQ l;have h5:=ownsRow_sortedI (n:=n) (os:=os) (ts:=Dt l) hs hg hblk h1 h2 h3;exact⟨rfl,h5,(Below.refl B w).grown (grownBy_sortedI _) hB (fun k hk=>by cases hk;exact hg)⟩
theorem qJ (n:Nd) (A:bE) (w:World) (hl:n.kids.length≤1048600) (ha:dK w A.k n.kids):
 Calls Tryz.prog 46 #[gu n A] w fun e w'=>∃v,e= .returned v∧w'.ownsRow w.heap.size 3 1 v (iM n).length (GR.flat aR (Dt (iM n)))∧Below w.heap.size w w':=by
 obtain⟨i0,hi,hz0,hz1,hz2⟩:=info_parts vD;have HC:=hide (rE A.k A.ck n.kids (w.alloc (.cells (fZ n A) 30)) hl (GR.At.below ha (au w _)));have jy:=hide (heap_alloc_new w (.cells (fZ n A) 30));have MR:Hid ((n.par= -1→iM n=n.kids)∧(¬n.par= -1→iM n=n.kids++[n.par])):=⟨fun h=>by unfold iM;rw [if_pos h,List.append_nil],fun h=>by unfold iM;rw [if_neg h]⟩;have hln:(iM n).length≤1048602:=by unfold iM;split<;>simp<;>omega
 generalize iM n=NB at *;open agi in exact wS
end Go.Proofs.YtacgbldlonoaaaaGreatDoor
namespace Go.Proofs.YtacgbldlonoaaaaGreatDoor
set_option maxHeartbeats 2000000
set_option maxRecDepth 100000
open Go.RowKit
open Mth
theorem jh {w:World} {g:Nat} {o:Obj} (h:w.heap[g]?=some o):g < w.heap.size:=by
 exact aa6
theorem fG {w w':World} {g:Nat} {o:Obj} (h:w.heap[g]?=some o) (hb:Below w.heap.size w w'):w'.heap[g]?=some o:=by
 rw [hb.block g (jh h)];exact h
theorem cells3 {w:World} {g:Nat} {a0 a1 a2:Value} {t:TypeId} (h:w.heap[g]?=some (.cells #[a0,a1,a2] t (0,0))):
 w.cell? ⟨g,0,none⟩=some a0∧w.cell? ⟨g,1,none⟩=some a1∧w.cell? ⟨g,2,none⟩=some a2:=by
 have hc:∀i,w.cell? ⟨g,i,none⟩=#[a0,a1,a2][i]?:=fun i=>cell_of_row w g i _ t (0,0) h
 exact⟨hc 0,hc 1,hc 2⟩
theorem Ea {w:World} {g:Nat} {a0 a1 a2 a3:Value} {t:TypeId} (h:w.heap[g]?=some (.cells #[a0,a1,a2,a3] t (0,0))):
 w.cell? ⟨g,0,none⟩=some a0∧w.cell? ⟨g,1,none⟩=some a1∧w.cell? ⟨g,2,none⟩=some a2∧w.cell? ⟨g,3,none⟩=some a3:=by
 have hc:∀i,w.cell? ⟨g,i,none⟩=#[a0,a1,a2,a3][i]?:=fun i=>cell_of_row w g i _ t (0,0) h
 exact⟨hc 0,hc 1,hc 2,hc 3⟩
theorem tF {w:World} {g:Nat} {a0 a1 a2 a3 a4 a5:Value} {t:TypeId} (h:w.heap[g]?=some (.cells #[a0,a1,a2,a3,a4,a5] t (0,0))):
 w.cell? ⟨g,0,none⟩=some a0∧w.cell? ⟨g,1,none⟩=some a1∧w.cell? ⟨g,2,none⟩=some a2∧w.cell? ⟨g,3,none⟩=some a3∧w.cell? ⟨g,4,none⟩=some a4∧w.cell? ⟨g,5,none⟩=some a5:=by
 have hc:∀i,w.cell? ⟨g,i,none⟩=#[a0,a1,a2,a3,a4,a5][i]?:=fun i=>cell_of_row w g i _ t (0,0) h
 exact⟨hc 0,hc 1,hc 2,hc 3,hc 4,hc 5⟩
theorem Q9 {w:World} {g:Nat} {a0 a1 a2 a3 a4 a5 a6:Value} {t:TypeId} (h:w.heap[g]?=some (.cells #[a0,a1,a2,a3,a4,a5,a6] t (0,0))):
 w.cell? ⟨g,0,none⟩=some a0∧w.cell? ⟨g,1,none⟩=some a1∧w.cell? ⟨g,2,none⟩=some a2∧w.cell? ⟨g,3,none⟩=some a3∧w.cell? ⟨g,4,none⟩=some a4∧w.cell? ⟨g,5,none⟩=some a5∧w.cell? ⟨g,6,none⟩=some a6:=by
 have hc:∀i,w.cell? ⟨g,i,none⟩=#[a0,a1,a2,a3,a4,a5,a6][i]?:=fun i=>cell_of_row w g i _ t (0,0) h
 exact⟨hc 0,hc 1,hc 2,hc 3,hc 4,hc 5,hc 6⟩
theorem rP (F T:Int) (r:Bool) (w:World) (h:jZ F T=r):Calls Tryz.prog 296 #[.agg #[.int .i64 F,.int .i64 T]] w fun e w'=>e= .returned (.bool r)∧Below w.heap.size w w':=by
 subst h;cases h1:nY F
 case' false=>
  have HP:=hide (show jZ F T=false by simp[jZ,h1])
  have H1:=hide (fun w1=>isNode F false w1 h1)
  clear h1
  go_enter Tryz.func296,Tryz.ntmps296
  go_wp2_with (first|(go_at_call_of 128 F;refine(H1 _).mono ?_;rintro e w1 ⟨rfl,rfl⟩))
  go_ret
  exact⟨aD HP.symm,au w _⟩
 have H1:=hide (fun w1=>isNode F true w1 h1);cases h2:nY T
 case' false=>
  have HP:=hide (show jZ F T=false by simp[jZ,h2])
  have H2:=hide (fun w1=>isNode T false w1 h2)
  clear h1 h2
  go_enter Tryz.func296,Tryz.ntmps296
  go_wp2_with (first|(go_at_call_of 128 F;refine(H1 _).mono ?_;rintro e w1 ⟨rfl,rfl⟩)|(go_at_call_of 128 T;refine(H2 _).mono ?_;rintro e w1 ⟨rfl,rfl⟩))
  go_ret
  exact⟨aD HP.symm,au w _⟩
 have H2:=hide (fun w1=>isNode T true w1 h2);by_cases hft:F=T
 case' pos=>
  have HP:=hide (show jZ F T=false by simp[jZ,hft])
  clear h1 h2
  subst hft
  go_enter Tryz.func296,Tryz.ntmps296
  go_wp2_with (first|(go_at_call_of 128 F;refine(H1 _).mono ?_;rintro e w1 ⟨rfl,rfl⟩))
  go_ret
  exact⟨aD HP.symm,au w _⟩
 have HP:=hide (show jZ F T=true by simp[jZ,h1,h2,hft]);have he:(F != T)=true:=by simp[hft]
 clear h1 h2;go_enter Tryz.func296,Tryz.ntmps296
 go_wp2_with (first|(go_at_call_of 128 F;refine(H1 _).mono ?_;rintro e w1 ⟨rfl,rfl⟩)|(go_at_call_of 128 T;refine(H2 _).mono ?_;rintro e w1 ⟨rfl,rfl⟩))
 go_ret;exact⟨aD (by first|exact HP.symm|exact he.trans HP.symm),au w _⟩
theorem Fp (F T:Int) (k:ByteArray) (N:Int) (r:Bool) (w:World) (h:(jZ F T&&keyOk k.data.toList&&eD N)=r):Calls Tryz.prog 297 #[.agg #[.int .i64 F,.int .i64 T,.string k,.int .i64 N]] w fun e w'=>e= .returned (.bool r)∧Below w.heap.size w w':=by
 have HQ:=hide h;clear h;cases hr:jZ F T
 case' false=>
  have HP:=hide (show(jZ F T&&keyOk k.data.toList&&eD N)=false by simp[hr])
  have HR:=hide (fun w1=>rP F T false w1 hr)
  clear hr
  go_enter Tryz.func297,Tryz.ntmps297
  go_wp2_with (first|(go_at_call 296;refine(HR _).mono ?_;rintro e w2 ⟨rfl,hb2⟩;have hA:=fG (heap_alloc_new w _) hb2;have hB:=(au w _).trans (hb2.mono (by simp));obtain⟨c0,c1,c2,c3⟩:=Ea hA;have hz:=jh hA;clear hA hb2))
  go_ret
  exact⟨aD (HP.symm.trans HQ),hB⟩
 have HR:=hide (fun w1=>rP F T true w1 hr);cases hc0:keyOk k.data.toList
 case' false=>
  have HP:=hide (show(jZ F T&&keyOk k.data.toList&&eD N)=false by simp[hr,hc0])
  have yY:=hide (fun w1=>gB k false w1 hc0)
  clear hr hc0
  go_enter Tryz.func297,Tryz.ntmps297
  go_wp2_with (first|(go_at_call 296;refine(HR _).mono ?_;rintro e w2 ⟨rfl,hb2⟩;have hA:=fG (heap_alloc_new w _) hb2;have hB:=(au w _).trans (hb2.mono (by simp));obtain⟨c0,c1,c2,c3⟩:=Ea hA;have hz:=jh hA;clear hA hb2)|(go_at_call_of 131 k;refine(yY _).mono ?_;rintro e w1 ⟨rfl,rfl⟩))
  go_ret
  exact⟨aD (HP.symm.trans HQ),hB⟩
 have yY:=hide (fun w1=>gB k true w1 hc0);cases hc1:eD N
 case' false=>
  have HP:=hide (show(jZ F T&&keyOk k.data.toList&&eD N)=false by simp[hr,hc0,hc1])
  have Wt:=hide (fun w1=>aP N false w1 hc1)
  clear hr hc0 hc1
  go_enter Tryz.func297,Tryz.ntmps297
  go_wp2_with (first|(go_at_call 296;refine(HR _).mono ?_;rintro e w2 ⟨rfl,hb2⟩;have hA:=fG (heap_alloc_new w _) hb2;have hB:=(au w _).trans (hb2.mono (by simp));obtain⟨c0,c1,c2,c3⟩:=Ea hA;have hz:=jh hA;clear hA hb2)|(go_at_call_of 131 k;refine(yY _).mono ?_;rintro e w1 ⟨rfl,rfl⟩)|(go_at_call_of 54 N;refine(Wt _).mono ?_;rintro e w1 ⟨rfl,rfl⟩))
  go_ret
  exact⟨aD (HP.symm.trans HQ),hB⟩
 have Wt:=hide (fun w1=>aP N true w1 hc1);have HP:=hide (show(jZ F T&&keyOk k.data.toList&&eD N)=true by simp[hr,hc0,hc1]);clear hr hc0 hc1;go_enter Tryz.func297,Tryz.ntmps297
 go_wp2_with (first|(go_at_call 296;refine(HR _).mono ?_;rintro e w2 ⟨rfl,hb2⟩;have hA:=fG (heap_alloc_new w _) hb2;have hB:=(au w _).trans (hb2.mono (by simp));obtain⟨c0,c1,c2,c3⟩:=Ea hA;have hz:=jh hA;clear hA hb2)|(go_at_call_of 131 k;refine(yY _).mono ?_;rintro e w1 ⟨rfl,rfl⟩)|(go_at_call_of 54 N;refine(Wt _).mono ?_;rintro e w1 ⟨rfl,rfl⟩))
 exact QY
theorem aaf (F T I L:Int) (k:ByteArray) (N:Int) (r:Bool) (w:World) (h:(jZ F T&&eD I&&decide (1≤L)&&decide (L≤I)&&keyOk k.data.toList&&eD N)=r):Calls Tryz.prog 298 #[.agg #[.int .i64 F,.int .i64 T,.int .i64 I,.int .i64 L,.string k,.int .i64 N]] w fun e w'=>e= .returned (.bool r)∧Below w.heap.size w w':=by
 have HQ:=hide h;clear h;cases hr:jZ F T
 case' false=>
  have HP:=hide (show(jZ F T&&eD I&&decide (1≤L)&&decide (L≤I)&&keyOk k.data.toList&&eD N)=false by simp[hr])
  have HR:=hide (fun w1=>rP F T false w1 hr)
  clear hr
  go_enter Tryz.func298,Tryz.ntmps298
  go_wp2_with (first|(go_at_call 296;refine(HR _).mono ?_;rintro e w2 ⟨rfl,hb2⟩;have hA:=fG (heap_alloc_new w _) hb2;have hB:=(au w _).trans (hb2.mono (by simp));obtain⟨c0,c1,c2,c3,c4,c5⟩:=tF hA;have hz:=jh hA;clear hA hb2))
  go_ret
  exact⟨aD (HP.symm.trans HQ),hB⟩
 have HR:=hide (fun w1=>rP F T true w1 hr);cases hc0:eD I
 case' false=>
  have HP:=hide (show(jZ F T&&eD I&&decide (1≤L)&&decide (L≤I)&&keyOk k.data.toList&&eD N)=false by simp[hr,hc0])
  have yY:=hide (fun w1=>aP I false w1 hc0)
  clear hr hc0
  go_enter Tryz.func298,Tryz.ntmps298
  go_wp2_with (first|(go_at_call 296;refine(HR _).mono ?_;rintro e w2 ⟨rfl,hb2⟩;have hA:=fG (heap_alloc_new w _) hb2;have hB:=(au w _).trans (hb2.mono (by simp));obtain⟨c0,c1,c2,c3,c4,c5⟩:=tF hA;have hz:=jh hA;clear hA hb2)|(go_at_call_of 54 I;refine(yY _).mono ?_;rintro e w1 ⟨rfl,rfl⟩))
  go_ret
  exact⟨aD (HP.symm.trans HQ),hB⟩
 have yY:=hide (fun w1=>aP I true w1 hc0);by_cases hd1:1≤L
 case' neg=>
  have HP:=hide (show(jZ F T&&eD I&&decide (1≤L)&&decide (L≤I)&&keyOk k.data.toList&&eD N)=false by simp[hr,hc0,hd1])
  clear hr hc0
  go_enter Tryz.func298,Tryz.ntmps298
  go_wp2_with (first|(go_at_call 296;refine(HR _).mono ?_;rintro e w2 ⟨rfl,hb2⟩;have hA:=fG (heap_alloc_new w _) hb2;have hB:=(au w _).trans (hb2.mono (by simp));obtain⟨c0,c1,c2,c3,c4,c5⟩:=tF hA;have hz:=jh hA;clear hA hb2)|(go_at_call_of 54 I;refine(yY _).mono ?_;rintro e w1 ⟨rfl,rfl⟩))
  go_ret
  exact⟨aD (HP.symm.trans HQ),hB⟩
 by_cases hd2:L≤I
 case' neg=>
  have HP:=hide (show(jZ F T&&eD I&&decide (1≤L)&&decide (L≤I)&&keyOk k.data.toList&&eD N)=false by simp[hr,hc0,hd1,hd2])
  clear hr hc0
  go_enter Tryz.func298,Tryz.ntmps298
  go_wp2_with (first|(go_at_call 296;refine(HR _).mono ?_;rintro e w2 ⟨rfl,hb2⟩;have hA:=fG (heap_alloc_new w _) hb2;have hB:=(au w _).trans (hb2.mono (by simp));obtain⟨c0,c1,c2,c3,c4,c5⟩:=tF hA;have hz:=jh hA;clear hA hb2)|(go_at_call_of 54 I;refine(yY _).mono ?_;rintro e w1 ⟨rfl,rfl⟩))
  go_ret
  exact⟨aD (HP.symm.trans HQ),hB⟩
 cases hc1:keyOk k.data.toList
 case' false=>
  have HP:=hide (show(jZ F T&&eD I&&decide (1≤L)&&decide (L≤I)&&keyOk k.data.toList&&eD N)=false by simp[hr,hc0,hd1,hd2,hc1])
  have Wt:=hide (fun w1=>gB k false w1 hc1)
  clear hr hc0 hc1
  go_enter Tryz.func298,Tryz.ntmps298
  go_wp2_with (first|(go_at_call 296;refine(HR _).mono ?_;rintro e w2 ⟨rfl,hb2⟩;have hA:=fG (heap_alloc_new w _) hb2;have hB:=(au w _).trans (hb2.mono (by simp));obtain⟨c0,c1,c2,c3,c4,c5⟩:=tF hA;have hz:=jh hA;clear hA hb2)|(go_at_call_of 54 I;refine(yY _).mono ?_;rintro e w1 ⟨rfl,rfl⟩)|(go_at_call_of 131 k;refine(Wt _).mono ?_;rintro e w1 ⟨rfl,rfl⟩))
  go_ret
  exact⟨aD (HP.symm.trans HQ),hB⟩
 have Wt:=hide (fun w1=>gB k true w1 hc1);cases hc2:eD N
 case' false=>
  have HP:=hide (show(jZ F T&&eD I&&decide (1≤L)&&decide (L≤I)&&keyOk k.data.toList&&eD N)=false by simp[hr,hc0,hd1,hd2,hc1,hc2])
  have uF:=hide (fun w1=>aP N false w1 hc2)
  clear hr hc0 hc1 hc2
  go_enter Tryz.func298,Tryz.ntmps298
  go_wp2_with (first|(go_at_call 296;refine(HR _).mono ?_;rintro e w2 ⟨rfl,hb2⟩;have hA:=fG (heap_alloc_new w _) hb2;have hB:=(au w _).trans (hb2.mono (by simp));obtain⟨c0,c1,c2,c3,c4,c5⟩:=tF hA;have hz:=jh hA;clear hA hb2)|(go_at_call_of 54 I;refine(yY _).mono ?_;rintro e w1 ⟨rfl,rfl⟩)|(go_at_call_of 131 k;refine(Wt _).mono ?_;rintro e w1 ⟨rfl,rfl⟩)|(go_at_call_of 54 N;refine(uF _).mono ?_;rintro e w1 ⟨rfl,rfl⟩))
  go_ret
  exact⟨aD (HP.symm.trans HQ),hB⟩
 have uF:=hide (fun w1=>aP N true w1 hc2);have HP:=hide (show(jZ F T&&eD I&&decide (1≤L)&&decide (L≤I)&&keyOk k.data.toList&&eD N)=true by simp[hr,hc0,hd1,hd2,hc1,hc2]);clear hr hc0 hc1 hc2;go_enter Tryz.func298,Tryz.ntmps298
 go_wp2_with (first|(go_at_call 296;refine(HR _).mono ?_;rintro e w2 ⟨rfl,hb2⟩;have hA:=fG (heap_alloc_new w _) hb2;have hB:=(au w _).trans (hb2.mono (by simp));obtain⟨c0,c1,c2,c3,c4,c5⟩:=tF hA;have hz:=jh hA;clear hA hb2)|(go_at_call_of 54 I;refine(yY _).mono ?_;rintro e w1 ⟨rfl,rfl⟩)|(go_at_call_of 131 k;refine(Wt _).mono ?_;rintro e w1 ⟨rfl,rfl⟩)|(go_at_call_of 54 N;refine(uF _).mono ?_;rintro e w1 ⟨rfl,rfl⟩))
 exact QY
theorem Gl (F T I:Int) (r:Bool) (w:World) (h:(jZ F T&&eD I)=r):Calls Tryz.prog 299 #[.agg #[.int .i64 F,.int .i64 T,.int .i64 I]] w fun e w'=>e= .returned (.bool r)∧Below w.heap.size w w':=by
 have HQ:=hide h;clear h;cases hr:jZ F T
 case' false=>
  have HP:=hide (show(jZ F T&&eD I)=false by simp[hr])
  have HR:=hide (fun w1=>rP F T false w1 hr)
  clear hr
  go_enter Tryz.func299,Tryz.ntmps299
  go_wp2_with (first|(go_at_call 296;refine(HR _).mono ?_;rintro e w2 ⟨rfl,hb2⟩;have hA:=fG (heap_alloc_new w _) hb2;have hB:=(au w _).trans (hb2.mono (by simp));obtain⟨c0,c1,c2⟩:=cells3 hA;have hz:=jh hA;clear hA hb2))
  go_ret
  exact⟨aD (HP.symm.trans HQ),hB⟩
 have HR:=hide (fun w1=>rP F T true w1 hr);cases hc0:eD I
 case' false=>
  have HP:=hide (show(jZ F T&&eD I)=false by simp[hr,hc0])
  have yY:=hide (fun w1=>aP I false w1 hc0)
  clear hr hc0
  go_enter Tryz.func299,Tryz.ntmps299
  go_wp2_with (first|(go_at_call 296;refine(HR _).mono ?_;rintro e w2 ⟨rfl,hb2⟩;have hA:=fG (heap_alloc_new w _) hb2;have hB:=(au w _).trans (hb2.mono (by simp));obtain⟨c0,c1,c2⟩:=cells3 hA;have hz:=jh hA;clear hA hb2)|(go_at_call_of 54 I;refine(yY _).mono ?_;rintro e w1 ⟨rfl,rfl⟩))
  go_ret
  exact⟨aD (HP.symm.trans HQ),hB⟩
 have yY:=hide (fun w1=>aP I true w1 hc0);have HP:=hide (show(jZ F T&&eD I)=true by simp[hr,hc0]);clear hr hc0;go_enter Tryz.func299,Tryz.ntmps299
 go_wp2_with (first|(go_at_call 296;refine(HR _).mono ?_;rintro e w2 ⟨rfl,hb2⟩;have hA:=fG (heap_alloc_new w _) hb2;have hB:=(au w _).trans (hb2.mono (by simp));obtain⟨c0,c1,c2⟩:=cells3 hA;have hz:=jh hA;clear hA hb2)|(go_at_call_of 54 I;refine(yY _).mono ?_;rintro e w1 ⟨rfl,rfl⟩))
 exact QY
end Go.Proofs.YtacgbldlonoaaaaGreatDoor
namespace Go.Proofs.YtacgbldlonoaaaaGreatDoor
open Go.RowKit
theorem dP {w:World} {g:Nat} {a0 a1 a2 a3 a4 a5 a6 a7 a8 a9 a10:Value} {t:TypeId} (h:w.heap[g]?=some (.cells #[a0,a1,a2,a3,a4,a5,a6,a7,a8,a9,a10] t (0,0))):
 (w.cell? ⟨g,0,none⟩=some a0∧w.cell? ⟨g,1,none⟩=some a1∧w.cell? ⟨g,2,none⟩=some a2∧w.cell? ⟨g,3,none⟩=some a3∧w.cell? ⟨g,4,none⟩=some a4∧w.cell? ⟨g,5,none⟩=some a5∧w.cell? ⟨g,6,none⟩=some a6∧w.cell? ⟨g,7,none⟩=some a7∧w.cell? ⟨g,8,none⟩=some a8∧w.cell? ⟨g,9,none⟩=some a9∧w.cell? ⟨g,10,none⟩=some a10)∧(w.frozen? ⟨g,0,none⟩=false∧w.frozen? ⟨g,1,none⟩=false∧w.frozen? ⟨g,2,none⟩=false∧w.frozen? ⟨g,3,none⟩=false∧w.frozen? ⟨g,4,none⟩=false∧w.frozen? ⟨g,5,none⟩=false∧w.frozen? ⟨g,6,none⟩=false∧w.frozen? ⟨g,7,none⟩=false∧w.frozen? ⟨g,8,none⟩=false∧w.frozen? ⟨g,9,none⟩=false∧w.frozen? ⟨g,10,none⟩=false):=by
 have hf:∀i,w.frozen? ⟨g,i,none⟩=false:=fun i=>by unfold World.frozen?;rw [h];simp
 have hc:∀i,w.cell? ⟨g,i,none⟩=#[a0,a1,a2,a3,a4,a5,a6,a7,a8,a9,a10][i]?:=fun i=>cell_of_row w g i _ t (0,0) h
 exact⟨⟨hc 0,hc 1,hc 2,hc 3,hc 4,hc 5,hc 6,hc 7,hc 8,hc 9,hc 10⟩,hf 0,hf 1,hf 2,hf 3,hf 4,hf 5,hf 6,hf 7,hf 8,hf 9,hf 10⟩
theorem abh {w:World} {g:Nat} {a0 a1 a2 a3 a4 a5 a6 a7 a8 a9 a10 b0 b1 b2 b3 b4 b5 b6 b7 b8 b9 b10:Value} {t:TypeId} (h:w.heap[g]?=some (.cells #[a0,a1,a2,a3,a4,a5,a6,a7,a8,a9,a10] t (0,0))):(((((((((((w.setCell ⟨g,0,none⟩ b0).setCell ⟨g,1,none⟩ b1).setCell ⟨g,2,none⟩ b2).setCell ⟨g,3,none⟩ b3).setCell ⟨g,4,none⟩ b4).setCell ⟨g,5,none⟩ b5).setCell ⟨g,6,none⟩ b6).setCell ⟨g,7,none⟩ b7).setCell ⟨g,8,none⟩ b8).setCell ⟨g,9,none⟩ b9).setCell ⟨g,10,none⟩ b10).heap[g]?=some (.cells #[b0,b1,b2,b3,b4,b5,b6,b7,b8,b9,b10] t (0,0)):=
 GR.setW_blk [b0,b1,b2,b3,b4,b5,b6,b7,b8,b9,b10] (o:=0) (xs:=[a0,a1,a2,a3,a4,a5,a6,a7,a8,a9,a10]) h
theorem Nr {a w:World} {B g:Nat} {b0 b1 b2 b3 b4 b5 b6 b7 b8 b9 b10:Value} (h:Below B a w) (hg:B≤g):Below B a (((((((((((w.setCell ⟨g,0,none⟩ b0).setCell ⟨g,1,none⟩ b1).setCell ⟨g,2,none⟩ b2).setCell ⟨g,3,none⟩ b3).setCell ⟨g,4,none⟩ b4).setCell ⟨g,5,none⟩ b5).setCell ⟨g,6,none⟩ b6).setCell ⟨g,7,none⟩ b7).setCell ⟨g,8,none⟩ b8).setCell ⟨g,9,none⟩ b9).setCell ⟨g,10,none⟩ b10):=
 GR.setW_below hg [b0,b1,b2,b3,b4,b5,b6,b7,b8,b9,b10] (o:=0) h
theorem Vo {P:Program} {fn:Func} {Q:Ending→World→Prop} {x:Exit} {act:Act} {W:World} (h:∀W',W'=W→bodyPost P fn Q x act W'):bodyPost P fn Q x act W:=h W rfl
theorem jo (w:World) (a b:Obj):((w.alloc a).alloc b).heap[w.heap.size]?=some a∧((w.alloc a).alloc b).heap[w.heap.size+1]?=some b∧Below w.heap.size w ((w.alloc a).alloc b):=by
 have e1:(w.alloc a).heap.size=w.heap.size+1:=by simp
 have h4:=heap_alloc_new (w.alloc a) b;have h6:=Below.heap_alloc (w.alloc a) b w.heap.size (by omega);rw [e1] at h4;exact⟨h6.trans (heap_alloc_new w a),h4,(au w a).alloc (by omega) b⟩
end Go.Proofs.YtacgbldlonoaaaaGreatDoor
