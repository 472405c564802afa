/-
  NdSet, NdShelf2, NdSet2, NdSet3, NdIns2.
-/
import Derived.Test.YtppmcficiphgdaaGreatDoorQa3
import Derived.Test.YtppmcficiphgdaaGreatDoorQa1
import Derived.Test.YtppmcficiphgdaaGreatDoorQa10
import Derived.Test.YtppmcficiphgdaaGreatDoorQa2
import Derived.Test.YtppmcficiphgdaaGreatDoorQa9
import Derived.Test.YtppmcficiphgdaaGreatDoorQaZ3
import Derived.Test.YtppmcficiphgdaaGreatDoorProg
import Derived.Test.YtppmcficiphgdaaGreatDoorQa16
import Derived.Test.YtppmcficiphgdaaGreatDoorQa4
import Derived.Test.YtppmcficiphgdaaGreatDoorQa15
import Derived.Maps.OwnSet
import Derived.Maps.OwnOps
import Derived.Maps.RangeWalk
import Derived.Maps.Ext
import Derived.Lib.SlMapFilter
import Derived.Lib.SlKeysI
import Derived.Laws.IdiomRangeMap
import Derived.Deep.LoopGhost
import Derived.Shelf.Abstract
import Derived.Shelf.SlIterI.Nil
import Derived.Shelf.SlIterI.Sorted
import Derived.Shelf.SlGeneric
import Derived.Shelf.SortM.Plain
import Derived.Shelf.SortM.SortNone
import Derived.Laws.NewBlocks
namespace Go.Proofs.YtppmcficiphgdaaGreatDoor
set_option maxHeartbeats 4000000
set_option maxRecDepth 100000
open Go.RowKit Go.Maps
open Mth
abbrev ilit (x:Int):Lit:= .int .i64 x
theorem ilit_ne {a b:Int} (h:a≠b):ilit a≠ilit b:=fun e=>h (by injection e)
theorem intLaw:Keyed Tryz.prog 3:=int_keyed Tryz.underlying3
theorem intKeyIs (x:Int) (h0:0≤x) (h1:x≤1000000000):keyOf Tryz.prog 3 (.int .i64 x)=some (ilit x):=keyOf_int_mk Tryz.underlying3 (by simp only[Lit.wf,Bool.and_eq_true,decide_eq_true_eq];constructor<;>(first|omega|(unfold IntKind.min;simp;omega)|(unfold IntKind.max;simp;omega)|(simp[IntKind.min,IntKind.max,IntKind.bits,IntKind.signed];omega)))
theorem zeroUnit (w:World):(zeroValue 255).run Tryz.prog w= .ok (.agg #[]) w:=by kernel_rfl
def SetIs (w:World) (mb n:Nat) (l:List Int):Prop:=∃D:DataW Unit,w.ownsMap Tryz.prog 3 unitElem mb n D∧∀x,Maps.has D (ilit x)=decide (x∈l)
theorem SetIs.made (w:World):SetIs (w.alloc (.map #[] 0)) w.heap.size 0 []:=⟨_,World.ownsMap_made w _ _ _,fun x=>by simp[Maps.has]⟩
theorem SetIs.lt {w:World} {mb n:Nat} {l:List Int} (h:SetIs w mb n l):mb < w.heap.size:=h.choose_spec.1.lt
theorem SetIs.kept {w w':World} {mb n:Nat} {l:List Int} (h:SetIs w mb n l) (hb:w'.heap[mb]?=w.heap[mb]?):SetIs w' mb n l:=by
 exact Za115
theorem SetIs.mono {w:World} {mb n n':Nat} {l:List Int} (h:SetIs w mb n l) (hn:n≤n'):SetIs w mb n' l:=by
 obtain⟨D,h1,h2⟩:=h;exact⟨D,h1.mono hn,h2⟩
theorem SetIs.same {w:World} {mb n:Nat} {l l':List Int} (h:SetIs w mb n l) (he:∀x,x∈l↔x∈l'):SetIs w mb n l':=by
 obtain⟨D,h1,h2⟩:=h;exact⟨D,h1,fun x=>by rw [h2 x,decide_eq_decide];exact he x⟩
theorem SetIs.look {w:World} {mb n:Nat} {l:List Int} (h:SetIs w mb n l) (x:Int) (h0:0≤x) (h1:x≤1000000000):
 (Instr.lookup 252 (.map (some mb)) (.int .i64 x) true).run Tryz.prog w= .ok (.tuple #[.agg #[],.bool (decide (x∈l))]) w:=by
 obtain⟨D,hown,ha⟩:=h;obtain⟨v,ps,hrun,hv⟩:=hown.look_ok intLaw Tryz.underlying252 (zeroUnit w) unitElem_mk (intKeyIs x h0 h1);rw [hrun,ha x,(unitElem_inv hv).1]
theorem SetIs.store {w:World} {mb n:Nat} {l:List Int} (h:SetIs w mb n l) (x:Int) (h0:0≤x) (h1:x≤1000000000) (hn:n < maxLen):
 ∃w',(Instr.mapUpdate 252 (.map (some mb)) (.int .i64 x) (.agg #[])).run Tryz.prog w= .ok () w'∧SetIs w' mb (n+1) (x::l)∧Keeps mb w w':=by
 obtain⟨D,hown,ha⟩:=h;obtain⟨w',hrun,g1,g2⟩:=hown.store intLaw Tryz.underlying252 hn (intKeyIs x h0 h1) unitElem_mk;refine⟨w',hrun,⟨_,g1,fun y=>?_⟩,keeps_of_turned g2⟩;by_cases e:y=x
 ·subst e;rw [has_put_same hown.isMap (show WideAt.IsKeyLit (ilit y) from trivial)];simp
 ·rw [has_put_other (ilit_ne e),ha y];simp[e]
theorem SetIs.keys {w:World} {mb n:Nat} {D:DataW Unit} {l:List Int} (hown:w.ownsMap Tryz.prog 3 unitElem mb n D) (ha:∀x,Maps.has D (ilit x)=decide (x∈l)) (hl:l.Nodup):l.Perm (intKeys D):=by
 obtain⟨es,hD,hpw,_⟩:=hown.entries intLaw;obtain⟨es',hD',hko⟩:=hown.keysOf;obtain rfl:es=es':=by rw [hD] at hD';simpa using hD'
 subst hD;exact perm_intKeys hpw (fun p hp=>by obtain⟨v,hv⟩:=hko p hp;obtain⟨x,_,hx,_⟩:=Maps.keyOf_i64 Tryz.underlying3 hv;exact⟨x,hx⟩) hl (fun x=>by rw [ha x];simp)
theorem size_keys {w:World} {mb n:Nat} {D:DataW Unit} (hown:w.ownsMap Tryz.prog 3 unitElem mb n D):Maps.size D=(intKeys D).length:=by
 obtain⟨es,hD,_⟩:=hown.entries intLaw;subst hD;simp[Maps.size,intKeys]
theorem SetIs.len {w:World} {mb n:Nat} {l:List Int} (h:SetIs w mb n l) (hl:l.Nodup) (ty:TypeId):(Builtin.len_ #[252] ty #[.map (some mb)]).run Tryz.prog w= .ok (.int .i64 l.length) w:=by
 obtain⟨D,hown,ha⟩:=h;rw [hown.len Tryz.underlying252 ty,size_keys hown,(SetIs.keys hown ha hl).length_eq]
theorem lowDel (B sb mb:Nat) (low x:Int) (w:World) (h1:w.heap[B]?=some (.cells #[.pointer (some ⟨sb,0,none⟩)] 220 (0,0))) (h2:w.heap[sb]?=some (.cells #[.int .i64 low,.map (some mb)] 254 (0,0))):
 Calls Tryz.prog 223 #[.int .i64 x,.agg #[],.pointer (some ⟨B,0,none⟩)] w fun e w'=>e= .returned (.bool (decide (x < low)))∧Below w.heap.size w w':=by
 have hB:=obj_lt h1;have hS:=obj_lt h2;have c0:w.cell? ⟨B,0,none⟩=some (.pointer (some ⟨sb,0,none⟩)):=cell_of_row w B 0 _ _ (0,0) h1;have c1:w.cell? ⟨sb,0,none⟩=some (.int .i64 low):=cell_of_row w sb 0 _ _ (0,0) h2;clear h1 h2;go_enter Tryz.func223,Tryz.ntmps223
 exact Za47
def lowPd (low:Int):Lit→DataW Unit→Bool
 | .int _ x,_=>decide (x < low)
 |_,_=>false
theorem has_lowPd {w:World} {mb n:Nat} {l:List Int} {es:List (Lit×DataW Unit)} (low:Int) (hown:w.ownsMap Tryz.prog 3 unitElem mb n (.map es)) (ha:∀x,Maps.has (.map es) (ilit x)=decide (x∈l)) (x:Int):
 Maps.has (Lib.deleteFuncD (lowPd low) (.map es)) (ilit x)=decide (x∈l.filter (fun x=>decide (low≤x))):=by
 obtain⟨es',hD',hko⟩:=hown.keysOf;obtain rfl:es=es':=by simpa using hD'
 have hx:=ha x;rw [Bool.eq_iff_iff,decide_eq_true_iff,has_eq,List.any_eq_true] at hx;show Maps.has (.map (es.filter fun p=> !lowPd low p.1 p.2)) (ilit x)=_
 rw [Bool.eq_iff_iff,decide_eq_true_iff,has_eq,List.any_eq_true,List.mem_filter,←hx,decide_eq_true_iff];constructor
 ·rintro⟨p,hp,hs⟩;obtain⟨hp1,hp2⟩:=List.mem_filter.1 hp;refine⟨⟨p,hp1,hs⟩,?_⟩;obtain⟨v,hv⟩:=hko p hp1;obtain⟨y,_,hy,_⟩:=Maps.keyOf_i64 Tryz.underlying3 hv;rw [hy] at hs hp2;have e:y=x:=by simpa [Lit.sameKey] using hs
  subst e;simpa [lowPd] using hp2
 ·rintro⟨⟨p,hp1,hs⟩,hle⟩;obtain⟨v,hv⟩:=hko p hp1;obtain⟨y,_,hy,_⟩:=Maps.keyOf_i64 Tryz.underlying3 hv;have hs':=hs;rw [hy] at hs';have e:y=x:=by simpa [Lit.sameKey] using hs'
  subst e;exact⟨p,List.mem_filter.2 ⟨hp1,by rw [hy];simpa [lowPd] using hle⟩,hs⟩
theorem keeps_of_grown {w w':World} {b:Nat} (g:w.grownBy w' (some b)):_root_.Go.Proofs.YtppmcficiphgdaaGreatDoor.Keeps b w w':=⟨g.os,g.tape,g.output,g.size,fun k hk hne=>g.block k hk (fun e=>hne (Option.some.inj e))⟩
theorem grown_of_below {w w':World} (h:Below w.heap.size w w') (row:Option Nat):w.grownBy w' row:=⟨h.os,h.tape,h.output,h.size,fun k hk _=>h.block k hk⟩
theorem delSet (B sb mb n:Nat) (low:Int) (l:List Int) (w:World) (h1:w.heap[B]?=some (.cells #[.pointer (some ⟨sb,0,none⟩)] 220 (0,0))) (h2:w.heap[sb]?=some (.cells #[.int .i64 low,.map (some mb)] 254 (0,0))) (hs:SetIs w mb n l):
 Calls Tryz.prog 222 #[.map (some mb),.func (.func 223) #[] #[.pointer (some ⟨B,0,none⟩)]] w fun e w'=>e= .returned (.tuple #[])∧SetIs w' mb n (l.filter (fun x=>decide (low≤x)))∧Keeps mb w w':=by
 obtain⟨D,hown,ha⟩:=hs;obtain⟨es0,rfl,hap,hkeys⟩:=hown.entries intLaw;have hmap:∃es clock,w.heap[mb]?=some (.map es clock):=by obtain⟨es,clock,hb,_⟩:=hown;exact⟨es,clock,hb⟩
 obtain⟨es1,clock1,hmb⟩:=hmap;have hBm:B≠mb:=fun e=>by rw [e,hmb] at h1;cases h1
 have hSm:sb≠mb:=fun e=>by rw [e,hmb] at h2;cases h2
 have HA:=hide (has_lowPd (n:=n) low hown ha);have HD:=hide (fun(W:World) (x:Int) (hg:w.grownBy W (some mb))=>lowDel B sb mb low x W ((hg.block B (obj_lt h1) (by simpa using hBm)).trans h1) ((hg.block sb (obj_lt h2) (by simpa using hSm)).trans h2));clear h1 h2 hmb hBm hSm ha;go_enter Tryz.func222,Tryz.ntmps222
 go_wp2_with (first
  |(at_range;refine wpList_range_own _ rfl _ 252 rfl 3 255 intLaw Tryz.underlying252 unitElem mb n _ rfl hown ?_;intro w0 hrg0 hg0 hs0)
  |go_in)
 go_frame
 go_loopw [8] (fun _ wr=>∃(left:Lit→Bool) (cnt:Nat),wr.ranges Tryz.prog 3 unitElem mb w.heap.size n (Fk (lowPd low) es0 left) left cnt∧w.grownBy wr (some mb))
  (fun _ wr=>wr.rangeLeft mb w.heap.size)
 case atStart=>exact⟨_,_,by rw [Fk_start hkeys];exact hrg0,hg0.but _⟩
 case round=>
  obtain⟨left,cnt,hrg,hgw⟩:=hrel
  go_wp2_with (first
   |(at_next;refine wpList_next_ranges _ rfl _ rfl 3 intLaw unitElem (Value.int .i64) (fun _:Unit=>Value.agg #[]) (fun key kl hk=>by obtain⟨x,hx,_⟩:=Maps.keyOf_i64 Tryz.underlying3 hk;exact⟨x,hx⟩) (fun v y hv=>⟨(),(unitElem_inv hv).1⟩) mb w.heap.size n _ _ _ rfl hrg ?_ ?_)
   |go_in)
  ·
   intro _ hl0
   go_wp2_with fail
   go_end0
   refine⟨rfl,⟨_,?_,HA⟩,keeps_of_grown hgw⟩
   rw [←Fk_end hl0]
   exact hrg.owns
  ·
   intro x kl yd yp w1 cnt1 hkey hlx hv hat hrg1 hlt hg1 hs1 hen
   obtain⟨x',ex,rfl,_⟩:=Maps.keyOf_i64 Tryz.underlying3 hkey
   cases ex
   have hgw1:=hgw.andThen hg1 (fun j hj=>by cases hj;exact Or.inl (Nat.le_refl _))
   have hc:=hide (HD (w1.alloc (.cells #[] 255)) x (hgw1.andThen (World.grownBy_alloc w1 _ none) (fun j hj=>by cases hj)))
   have hrgA:=hrg1.alloc (.cells #[] 255)
   have hgA:=hgw1.andThen (World.grownBy_alloc w1 (.cells #[] 255) none) (fun j hj=>by cases hj)
   by_cases hx:x < low
   ·have hp:lowPd low (ilit x) yd=true:=by simpa [lowPd] using hx
    have hq:decide (x < low)=true:=by simpa using hx
    go_wp2_with (first
     |(go_at_call 223;refine hc.mono ?_;rintro e w2 ⟨rfl,hb2⟩;have hrg2:=hrgA.kept (grown_of_below hb2 none) (by simp) (by simp))
     |(at_delete;refine wpList_delete_ranges _ rfl _ _ 252 3 rfl 255 intLaw Tryz.underlying252 unitElem mb w.heap.size n _ _ _ rfl hrg2 _ _ rfl hkey ?_;intro w3 cnt3 hrg3 hle hturn;go_frame)
     |go_in)
    rw [strike_twice] at hrg3;go_roundw
    case rel=>exact⟨_,cnt3,by rw [←Fk_struck hap (intLaw.key hkey) hlx hp hat];exact hrg3,(hgA.andThen (grown_of_below hb2 none) (fun j hj=>by cases hj)).andThen hturn.grown (fun j hj=>by cases hj;exact Or.inr rfl)⟩
    case measure=>rw [hrg3.left_eq,hrg.left_eq];omega
   ·have hp:lowPd low (ilit x) yd=false:=by simpa [lowPd] using hx
    have hq:decide (x < low)=false:=by simpa using hx
    go_wp2_with (first
     |(go_at_call 223;refine hc.mono ?_;rintro e w2 ⟨rfl,hb2⟩;have hrg2:=hrgA.kept (grown_of_below hb2 none) (by simp) (by simp))
     |go_in)
    go_roundw
    case rel=>exact⟨_,cnt1,by rw [←Fk_stays hap (intLaw.key hkey) hlx hp hat];exact hrg2,hgA.andThen (grown_of_below hb2 none) (fun j hj=>by cases hj)⟩
    case measure=>rw [hrg2.left_eq,hrg.left_eq];exact hlt
end Go.Proofs.YtppmcficiphgdaaGreatDoor
namespace Go.Proofs
open Go.Shelf
def Tryz.keysL_ren:Go.Shelf.Ren:=⟨fun|7=>226|10=>250|n=>n,fun|23=>252|26=>3|3=>255|28=>261|0=>0|27=>260|33=>89|4=>4|n=>n,fun|n=>n⟩
theorem Tryz.keysL:Go.Proofs.SlLaysZI.n7 Tryz.prog Tryz.keysL_ren:={
 mixed:=by kernel_rfl
 f7:=⟨Tryz.f226.name,by decide,Tryz.func226.trans (congrArg some (by kernel_rfl))⟩
 f10:=⟨Tryz.f250.name,by decide,Tryz.func250.trans (congrArg some (by kernel_rfl))⟩
 t0:=Tryz.underlying0
 a0:=Tryz.isAgg0
 z0:=Tryz.sizeOf0
 v0:=Tryz.zeroValue0
 t4:=Tryz.underlying4
 a4:=Tryz.isAgg4
 z4:=Tryz.sizeOf4
 v4:=Tryz.zeroValue4
 t23:=Tryz.underlying252
 a23:=Tryz.isAgg252
 z23:=Tryz.sizeOf252
 v23:=Tryz.zeroValue252
 t26:=Tryz.underlying3
 a26:=Tryz.isAgg3
 z26:=Tryz.sizeOf3
 v26:=Tryz.zeroValue3
 t27:=Tryz.underlying260
 a27:=Tryz.isAgg260
 z27:=Tryz.sizeOf260
 v27:=Tryz.zeroValue260
 t28:=Tryz.underlying261
 a28:=Tryz.isAgg261
 z28:=Tryz.sizeOf261
 v28:=Tryz.zeroValue261
 t33:=Tryz.underlying89
 a33:=Tryz.isAgg89
 z33:=Tryz.sizeOf89
 v33:=Tryz.zeroValue89}
def Tryz.sortedL_ren:Go.Shelf.Ren:=⟨fun|6=>225|8=>249|9=>183|11=>268|13=>215|12=>214|23=>242|24=>243|14=>233|15=>234|16=>235|17=>236|18=>237|19=>238|20=>239|21=>240|22=>241|25=>255|26=>256|27=>257|28=>258|29=>259|30=>260|31=>271|n=>n,fun|26=>3|28=>261|24=>24|0=>0|3=>3|37=>203|48=>150|50=>281|4=>4|40=>273|39=>272|45=>182|5=>5|9=>9|51=>300|55=>304|57=>331|58=>193|33=>89|n=>n,fun|n=>n⟩
theorem Tryz.sortedL:Go.Proofs.SlLaysZI.n6 Tryz.prog Tryz.sortedL_ren:={
 mixed:=by kernel_rfl
 f6:=⟨Tryz.f225.name,by decide,Tryz.func225.trans (congrArg some (by kernel_rfl))⟩
 f8:=⟨Tryz.f249.name,by decide,Tryz.func249.trans (congrArg some (by kernel_rfl))⟩
 f11:=⟨Tryz.f268.name,by decide,Tryz.func268.trans (congrArg some (by kernel_rfl))⟩
 t0:=Tryz.underlying0
 a0:=Tryz.isAgg0
 z0:=Tryz.sizeOf0
 v0:=Tryz.zeroValue0
 t24:=Tryz.underlying24
 a24:=Tryz.isAgg24
 z24:=Tryz.sizeOf24
 v24:=Tryz.zeroValue24
 t26:=Tryz.underlying3
 a26:=Tryz.isAgg3
 z26:=Tryz.sizeOf3
 v26:=Tryz.zeroValue3
 t28:=Tryz.underlying261
 a28:=Tryz.isAgg261
 z28:=Tryz.sizeOf261
 v28:=Tryz.zeroValue261
 i26:=by kernel_rfl}
end Go.Proofs
namespace Go.Proofs.YtppmcficiphgdaaGreatDoor
set_option maxHeartbeats 2000000
set_option maxRecDepth 100000
open Go.RowKit Go.Maps
open Mth
abbrev setBlk (w:World) (sb mb:Nat) (low:Int):Prop:=w.heap[sb]?=some (.cells #[.int .i64 low,.map (some mb)] 254 (0,0))
theorem KeepsL.of_keeps {g:Nat} {w w':World} (h:Keeps g w w'):KeepsL [g] w w':=⟨h.os,h.tape,h.output,h.size,fun k hk hg=>h.block k hk (by simpa using hg)⟩
theorem SetIs.ne {w:World} {sb mb n:Nat} {low:Int} {l:List Int} (h:SetIs w mb n l) (hs:setBlk w sb mb low):sb≠mb:=fun e=>by
 obtain⟨D,⟨es,clock,hb,_⟩,_⟩:=h;unfold setBlk at hs;rw [e,hb] at hs;cases hs
theorem SetIs.far {w:World} {g mb n:Nat} {l:List Int} {cs:Array Value} {t:TypeId} {q:Nat×Nat} (h:SetIs w mb n l) (hs:w.heap[g]?=some (.cells cs t q)):g≠mb:=fun e=>by
 obtain⟨D,⟨es,clock,hb,_⟩,_⟩:=h;rw [e,hb] at hs;cases hs
theorem hasSet (sb mb n:Nat) (low x:Int) (l:List Int) (w:World) (h0:0≤x) (h1:x≤1000000000) (hb:setBlk w sb mb low) (hs:SetIs w mb n l):
 Calls Tryz.prog 197 #[.pointer (some ⟨sb,0,none⟩),.int .i64 x] w fun e w'=>e= .returned (.bool (decide (x < low)||decide (x∈l)))∧Below w.heap.size w w':=by
 have hsl:=obj_lt hb;obtain⟨⟨m0,m1⟩,_⟩:=two_at hb;have hrun:=hs.look x h0 h1;clear hb hs;cases hm:decide (x∈l)
 ·rw [hm] at hrun;go_enter Tryz.func197,Tryz.ntmps197
  exact Za47
 ·rw [hm] at hrun;go_enter Tryz.func197,Tryz.ntmps197
  exact Za47
theorem liftSet (sb mb n:Nat) (low0 low L:Int) (l:List Int) (w:World) (hL:max low0 low=L) (hb:setBlk w sb mb low0) (hs:SetIs w mb n l):
 Calls Tryz.prog 196 #[.pointer (some ⟨sb,0,none⟩),.int .i64 low] w fun e w'=>e= .returned (.tuple #[])∧setBlk w' sb mb L∧SetIs w' mb n (l.filter (fun x=>decide (L≤x)))∧KeepsL [sb,mb] w w':=by
 have hsl:=obj_lt hb;have hml:=hs.lt;have hne:=hs.ne hb;have HB:=hide hb;have HS:=hide hs;obtain⟨⟨m0,m1⟩,f0,f1⟩:=two_at hb;have HL:=hide hL;clear hb hs hL;go_enter Tryz.func196,Tryz.ntmps196
 go_upto_region 2 with fail;go_region
 rw [unhide HL];go_upto_region 2 with fail;refine wp_at (fun W hW=>?_);have hsz:(w.setCell ⟨sb,0,none⟩ (.int .i64 L)).heap.size=w.heap.size:=by simp[World.setCell]
 have e1:W.heap[w.heap.size]?=some (.cells #[.pointer (some ⟨sb,0,none⟩)] 220 (0,0)):=by
  rw [hW,←hsz];exact heap_alloc_new _ _
 have e2:setBlk W sb mb L:=by
  have h1:(w.setCell ⟨sb,0,none⟩ (.int .i64 L)).heap[sb]?=some (.cells #[.int .i64 L,.map (some mb)] 254 (0,0)):=blk_setO HB 0 (.int .i64 L);rw [hW];exact(Below.heap_alloc _ _ _ (by rw [hsz];exact hsl)).trans h1
 have e3:SetIs W mb n l:=HS.kept (by
  rw [hW]
  exact(Below.heap_alloc _ _ _ (by rw [hsz];exact hml)).trans (Below.heap_setCell _ _ _ _ hne.symm))
 have e4:KeepsL [sb,mb] w W:=by
  rw [hW];refine⟨rfl,rfl,rfl,by simp[World.setCell],fun k hk hkn=>?_⟩;have h1:k≠sb:=fun e=>hkn (by simp[e])
  exact(Below.heap_alloc _ _ _ (by rw [hsz];exact hk)).trans (Below.heap_setCell _ _ _ _ h1)
 have m0:W.cell? ⟨w.heap.size,0,none⟩=some (.pointer (some ⟨sb,0,none⟩)):=cell_of_row W _ 0 _ _ (0,0) e1;obtain⟨⟨m1,m2⟩,_⟩:=two_at e2;have hwl:=obj_lt e1;have hsl2:=obj_lt e2;have HD:=hide (delSet w.heap.size sb mb n L l W e1 e2 e3);have E2:=hide e2;have E4:=hide e4;clear hW e1 e2 e3 e4 HB HS;go_wp2_with fail;refine HD.mono ?_;rintro e w' ⟨rfl,g1,g2⟩;have G1:=hide g1;have G2:=hide g2;clear g1 g2 HD m0 m1 m2;go_wp2_with fail;refine bodyPost_end (v:= .tuple #[]) (by simp[results,Tryz.results196,go_sem]) rfl ⟨rfl,?_,G1,E4.trans ((KeepsL.of_keeps G2).mono (by simp))⟩;unfold setBlk;rw [(unhide G2).block sb hsl2 hne];exact E2
theorem setOf (f low:Int) (a:Option Addr) (cap:Nat) (ids:List Int) (w:World) (hl:ids.length≤40) (hb:∀x∈ids,0≤x∧x≤1000000000) (ha:IntsAt w a ids):
 Calls Tryz.prog 195 #[.agg #[.int .i64 f,.int .i64 low,.slice a ids.length cap]] w fun e w'=>∃sb mb,e= .returned (.pointer (some ⟨sb,0,none⟩))∧w.heap.size≤sb∧w.heap.size≤mb∧setBlk w' sb mb low∧SetIs w' mb ids.length ids∧Below w.heap.size w w':=by
 have hmm:= @run_makeMap Tryz.prog;have HA:=hide ha;have HBD:=hide hb;clear ha hb;go_enter Tryz.func195,Tryz.ntmps195
 go_wp2_with fail;go_loopw [14] (fun i wr=>∃k:Nat,k≤ids.length∧i= .int .i64 k∧setBlk wr (w.heap.size+1+1) (w.heap.size+1) low∧SetIs wr (w.heap.size+1) k (ids.take k)∧Below w.heap.size w wr) (fun i _=>ids.length - (intOf i).toNat)
 case atStart=>
  have hz:∀(u:World) (o:Obj),(u.alloc o).heap.size=u.heap.size+1:=fun u o=>by simp
  have hM:=SetIs.made (w.alloc (.cells #[.int .i64 f,.int .i64 low,.slice a ids.length cap] 81));have hS:=heap_alloc_new ((w.alloc (.cells #[.int .i64 f,.int .i64 low,.slice a ids.length cap] 81)).alloc (.map #[] 0)) (.cells #[.int .i64 low,.map (some (w.heap.size+1))] 254);rw [hz] at hM;rw [hz,hz] at hS;refine⟨0,Nat.zero_le _,rfl,hS,?_,?_⟩
  ·refine hM.kept ?_;exact Below.heap_alloc _ _ _ (by rw [hz,hz];omega)
  ·exact((below_one w _).alloc (by rw [hz];omega) _).alloc (by rw [hz,hz];omega) _
 case round=>
  obtain⟨k,hk,rfl,hS,hI,hbw⟩:=hrel;have HS:=hide hS;have HI:=hide hI;have HBW:=hide hbw;obtain⟨⟨m0,m1⟩,_⟩:=two_at hS;have hsl:=obj_lt hS;clear hS hI hbw hmm;by_cases hlt:k < ids.length
  ·obtain⟨g,off,rfl,hgw,q0⟩:=IntsAt.one (GR.At.below HA HBW) k hlt;have HB:=hide (HBD ids[k] (List.getElem_mem hlt));have HT:=hide (show∀x,x∈ids[k]::ids.take k↔x∈ids.take (k+1) from fun x=>by rw [List.take_succ_eq_append_getElem hlt,List.mem_cons,List.mem_append,List.mem_singleton,or_comm]);generalize ids[k]=ik at *;obtain⟨w2,hrun,hI2,hK2⟩:=HI.store ik HB.1 HB.2 (by unfold maxLen;omega);have HI2:=hide hI2;have HK2:=hide hK2;clear hI2 hK2;go_wp2_with fail;go_roundw
   case rel=>
    refine⟨k+1,by omega,by go_num,?_,HI2.same HT,?_⟩
    ·unfold setBlk;rw [(unhide HK2).block _ hsl (by omega)];exact HS
    ·exact HBW.trans ⟨HK2.os,HK2.tape,HK2.output,HK2.size,fun j hj=>HK2.block j (by have:=HBW.size;omega) (by omega)⟩
   case measure=>simp[intOf];omega
  ·have hke:k=ids.length:=by omega
   subst hke;have hnlt:decide ((ids.length:Int) < (ids.length:Int))=false:=by simp
   go_wp2_with fail;go_ret;refine⟨_,_,rfl,by omega,by omega,HS,?_,HBW⟩;have h:=unhide HI;rwa [List.take_length] at h
end Go.Proofs.YtppmcficiphgdaaGreatDoor
namespace Go.Proofs.YtppmcficiphgdaaGreatDoor
set_option maxHeartbeats 2000000
set_option maxRecDepth 100000
open Go.RowKit Go.Maps Go.Sort
open Mth
theorem sortsL (m:Nat):AnyZI.SortsIn Tryz.prog Tryz.sortedL_ren Fence.wide m:=
 ⟨fun blk off cap ss W hH hblk hsz=>callsIn_wide.2 (AnyM.slices_Sort_int Tryz.sortL blk off cap ss W hH hblk hsz),
  fun p cap W=>callsIn_wide.2 (AnyM.slices_Sort_int_none Tryz.sortL p cap W)⟩
theorem keysSet (mb:Option Nat) (W:World):Calls Tryz.prog 226 #[.map mb] W fun e w'=>e= .returned (.func (.func 250) #[] #[.pointer (some ⟨W.heap.size,0,none⟩)])∧w'=W.alloc (.cells #[.map mb] 252):=
 callsIn_wide.1 (AnyZI.keys_in Tryz.keysL Fence.wide 5 trivial rfl mb W)
theorem flat_num (l:List Int):GR.flat encNum l=l.map encZ:=by
 induction l with
 |nil=>rfl
 |cons x l ih=>rw [GR.flat_cons,ih];rfl
theorem srt_self {l ss:List Int} (hp:l.Pairwise (· < ·)) (h:ss.Perm l):ss.mergeSort (fun x y=>decide (x≤y))=l:=by
 have h1:ss.mergeSort leI=l.mergeSort leI:=mergeSort_of_perm_i h;refine h1.trans (List.mergeSort_of_pairwise ?_);exact hp.imp (fun {a b} h=>by simp only[leI,decide_eq_true_eq];omega)
theorem sortedSet (B mb n:Nat) (l:List Int) (W:World) (hl:l.length≤1000) (hp:l.Pairwise (· < ·)) (hB:W.heap[B]?=some (.cells #[.map (some mb)] 252 (0,0))) (hs:SetIs W mb n l):
 Calls Tryz.prog 225 #[.func (.func 250) #[] #[.pointer (some ⟨B,0,none⟩)]] W fun e w'=>∃v,e= .returned v∧w'.ownsRow W.heap.size 3 1 v l.length (GR.flat encNum l)∧Below W.heap.size W w':=by
 obtain⟨D,hown,ha⟩:=hs;have hk:=SetIs.keys hown ha (hp.imp (fun h=>by omega));have hsz:Maps.size D=l.length:=by rw [size_keys hown,hk.length_eq]
 have hcell:W.cell? ⟨B,0,none⟩=some (.map (some mb)):=cell_of_row W B 0 _ _ (0,0) hB
 have hseq:SeqGives Fence.wide 2 Tryz.prog 250 #[.pointer (some ⟨B,0,none⟩)] encZ (fun ss=>ss.Perm (intKeys D)) (Maps.size D) W:=
  AnyZI.keys_gives (ρ:=Tryz.keysL_ren) {Tryz.keysL with} Fence.wide _ trivial rfl (by omega) B mb n D _ (obj_lt hB) hcell hown
 have cS:=AnyZI.sorted_in Tryz.sortedL Fence.wide 5 trivial trivial trivial trivial rfl (by omega) (sortsL _) (enters_of Tryz.func183 (by kernel_rfl) rfl) 250 #[.pointer (some ⟨B,0,none⟩)] trivial (enters_of Tryz.func250 (by kernel_rfl) rfl) _ _ (by rw [hsz];unfold maxLen;omega) (by rw [hsz];omega) _ hseq;change CallsIn _ _ Tryz.prog 225 _ _ _ at cS
 refine(callsIn_wide.1 cS).mono ?_;rintro e w' ⟨v,ss,rfl,hS,hrow,_,hb⟩;have hperm:ss.Perm l:=hS.trans hk.symm;rw [srt_self hp hperm,hperm.length_eq,←flat_num] at hrow;exact⟨v,rfl,hrow,hb⟩
theorem seenOfSet (sb mb n:Nat) (f low:Int) (l:List Int) (w:World) (hl:l.length≤1000) (hp:l.Pairwise (· < ·)) (hb:setBlk w sb mb low) (hs:SetIs w mb n l):
 Calls Tryz.prog 199 #[.pointer (some ⟨sb,0,none⟩),.int .i64 f] w fun e w'=>∃v,e= .returned (.agg #[.int .i64 f,.int .i64 low,v])∧w'.ownsRow w.heap.size 3 1 v l.length (GR.flat encNum l)∧Below w.heap.size w w':=by
 have hsl:=obj_lt hb;have HB:=hide hb;have HS:=hide hs;have HKS:=hide keysSet;have HSO:=hide (fun B W (h1:W.heap[B]?=_) (h2:SetIs W mb n l)=>sortedSet B mb n l W hl hp h1 h2);have hb1:=obj_step hb (below_one w (.cells #[.int .i64 0,.int .i64 0,.slice none 0 0] 81));obtain⟨⟨m0,m1⟩,_⟩:=two_at hb1;clear hb hs hb1;go_enter Tryz.func199,Tryz.ntmps199
 go_upto_region 1 with fail;have y0:=cell_regrown m0;have y1:=cell_regrown m1;clear m0 m1;refine wp_region_mixE 12 (by kernel_rfl) ?_;show wpMixE _ _ _ _ _ 13 (Array.replicate 13 false) _ _
 refine tk [0,1,2,3,4,5,6,7,8] ?_;iterate 9 (refine tkE (fun K hK=>?_);go_simp;refine hK _ ?_;clear hK K)
 refine tkN ?_;clear y0 y1;refine wpMixE_one 9 rfl (by kernel_rfl) (by rfl) (fun x hx=>?_);go_simp;have HX:=hide hx;clear hx;refine(HKS (some mb) x).mono ?_;rintro e y ⟨rfl,rfl⟩;refine⟨below_one x _,?_⟩;refine wpMixE_one 10 rfl (by kernel_rfl) (by rfl) (fun x2 hx2=>?_);go_simp;have HX2:=hide hx2;have h1:x2.heap[x.heap.size]?=some (.cells #[.map (some mb)] 252 (0,0)):=obj_step (heap_alloc_new x _) hx2;have HG:=hide (Ge.trans (Ge.trans HX (below_one x _)) hx2);have h2:SetIs x2 mb n l:=HS.kept ((HG.block mb (by have:=HS.lt;simp;omega)).trans (Below.heap_alloc _ _ _ HS.lt));have HCS:=hide (HSO x.heap.size x2 h1 h2);clear hx2 h1 h2 HKS HSO HX2;refine HCS.mono ?_;rintro e z ⟨v,rfl,hrow,hbz⟩;refine⟨hbz,?_⟩;obtain⟨av,cv,rfl,_⟩:=GR.own_at (enc:=encNum) (sz:=1) encNum_length hrow;have HRW:=hide hrow;have HZ:=hide (Ge.trans HG hbz);clear hrow hbz HCS;refine tk [11] ?_;(refine tkE (fun K hK=>?_);go_simp;refine hK _ ?_;clear hK K)
 refine tkN ?_;refine wpMixE_leave (by kernel_rfl) (fun x3 hx3=>?_);have HG3:=hide (Ge.trans HZ hx3);have HR3:=hide (GR.own_below HRW hx3);have e3:x3.heap[w.heap.size]?=some (.cells #[.int .i64 0,.int .i64 0,.slice none 0 0] 81 (0,0)):=obj_step (heap_alloc_new w _) HG3;have f0:=obj_free e3 0;have f1:=obj_free e3 1;have f2:=obj_free e3 2;have hw3:=obj_lt e3;obtain⟨d0,d1,d2⟩:=three e3;have E3:=hide e3;clear e3 hx3 HX HZ HRW;refine wpAny_one 12 rfl (by kernel_rfl) (by rfl) ?_;go_simp;refine wpAny_done (by kernel_rfl) ?_;clear d0 d1 d2 f0 f1 f2;go_wp2_with fail;refine bodyPost_atN (fun W' hW'=>?_)
 have e4:W'.heap[w.heap.size]?=some (.cells #[.int .i64 f,.int .i64 low,.slice av l.length cv] 81 (0,0)):=by
  rw [hW'];exact GR.setW_blk [.int .i64 f,.int .i64 low,.slice av l.length cv] (o:=0) (xs:=[.int .i64 0,.int .i64 0,.slice none 0 0]) E3
 have hsw:w.heap.size < x2.heap.size:=by have:=HG.size;simp at this;omega
 have hg:x3.grownBy W' (some w.heap.size):=by
  rw [hW'];exact⟨rfl,rfl,rfl,by simp[World.setCell],fun k _ hk=>GR.setW_other (g':=k) (fun e=>hk (by rw [e])) [.int .i64 f,.int .i64 low,.slice av l.length cv] (o:=0)⟩
 have hne:∀k,(Value.slice av l.length cv).ownBlock=some k→k≠w.heap.size:=fun k hk=>by have:=(HR3.lt k hk).1;omega
 have hrow:W'.ownsRow x2.heap.size 3 1 (.slice av l.length cv) l.length (GR.flat encNum l):=by
  refine HR3.kept (row:=some w.heap.size) hg ?_;cases hv:(Value.slice av l.length cv).ownBlock with
  |none=>exact .inl rfl
  |some k=>exact .inr (fun e=>hne k hv (by injection e))
 have hbel:Below w.heap.size w W':=by
  rw [hW'];exact GR.setW_below (Nat.le_refl _) [.int .i64 f,.int .i64 low,.slice av l.length cv] (o:=0) ((below_one w _).trans (HG3.mono (by simp)))
 have HRW:=hide (ownsRow_base_a hrow (show w.heap.size≤x2.heap.size by omega));have HBW:=hide hbel;obtain⟨d0,d1,d2⟩:=three e4;clear hW' e4 hg hrow hbel;exact bodyPost_ret (v:= .agg #[.int .i64 f,.int .i64 low,.slice av l.length cv]) (by simp[results,Tryz.results199,go_sem,d0,d1,d2]) rfl ⟨_,rfl,HRW,HBW⟩
end Go.Proofs.YtppmcficiphgdaaGreatDoor
namespace Go.Proofs.YtppmcficiphgdaaGreatDoor
set_option maxHeartbeats 4000000
set_option maxRecDepth 100000
open Go.RowKit
open Mth
def rowA (R:List Value) (i:Nat) (q:Rq):List Value:=R.take (i*4)++encRq q++R.drop (i*4+4)
def rowB (R:List Value) (l:List Rq) (i:Nat) (q:Rq):List Value:=(rowA R i q).take ((i+1)*4)++GR.flat encRq (l.drop i)++(rowA R i q).drop ((i+1)*4+(l.length - i)*4)
theorem rowA_len (R:List Value) (i:Nat) (q:Rq) (h:i*4+4≤R.length):(rowA R i q).length=R.length:=by
 unfold rowA;rw [List.length_append,List.length_append,List.length_take,List.length_drop];show _+4+_=_
 omega
theorem rowB_len (R:List Value) (l:List Rq) (i:Nat) (q:Rq) (hi:i < l.length) (h:(l.length+1)*4≤R.length):(rowB R l i q).length=R.length:=by
 have h1:=rowA_len R i q (by omega);unfold rowB;rw [List.length_append,List.length_append,flatQ_len,List.length_take,List.length_drop,List.length_drop,h1];omega
theorem rowB_take (R:List Value) (l:List Rq) (i:Nat) (q:Rq) (hi:i < l.length) (_h:(l.length+1)*4≤R.length) (ht:R.take (i*4)=GR.flat encRq (l.take i)):(rowB R l i q).take ((l.length+1)*4)=GR.flat encRq (l.take i++q::l.drop i):=by
 have ht2:(GR.flat encRq (l.take i)).length=i*4:=by rw [flatQ_len,List.length_take,Nat.min_eq_left (by omega)]
 have hd:(GR.flat encRq (l.drop i)).length=(l.length - i)*4:=by rw [flatQ_len,List.length_drop]
 have e1:(rowA R i q).take ((i+1)*4)=GR.flat encRq (l.take i)++encRq q:=by
  unfold rowA;rw [ht];have:(i+1)*4=(GR.flat encRq (l.take i)++encRq q).length:=by rw [List.length_append,ht2];show _=_+4;omega
  rw [this,List.take_left]
 unfold rowB;rw [e1,GR.flat_append,GR.flat_cons,←List.append_assoc];rw [show(l.length+1)*4=(GR.flat encRq (l.take i)++encRq q++GR.flat encRq (l.drop i)).length by rw [List.length_append,List.length_append,hd,ht2];show _=_+4+_;omega,List.take_left]
theorem insReq_grow (g cap i:Nat) (l:List Rq) (q:Rq) (vb:Nat) (w:World) (cur:Array Value) (hl:l.length≤1000) (hi:i < l.length) (hnc:l.length≤cap) (hroom:cap < l.length+1) (hblk:w.heap[g]?=some (.cells cur 49 (0,0))) (htake:cur.toList.take (l.length*4)=GR.flat encRq l) (hv:w.heap[vb]?=some (.cells #[.int .i64 q.no,.string q.k,.int .i64 q.n,.int .i64 q.s] 49 (0,0))):
 Calls Tryz.prog 188 #[.slice (some ⟨g,0,none⟩) l.length cap,.int .i64 i,.slice (some ⟨vb,0,none⟩) 1 1] w fun e w'=>
  ∃G cur',e= .returned (.slice (some ⟨w.heap.size,0,none⟩) (l.length+1) G)∧l.length+1≤G∧G≤maxLen∧w'.heap[w.heap.size]?=some (.cells cur' 49 (0,0))∧cur'.size=G*4∧cur'.toList.take ((l.length+1)*4)=GR.flat encRq (l.take i++q::l.drop i)∧w.grownBy w' none:=by
 obtain⟨i0,hi0,hz0,hz1,hz2⟩:=info_parts infoRq;have hgw:=obj_lt hblk;have hvw:=obj_lt hv;have hdl:(GR.flat encRq (l.drop i)).length=(l.length - i)*4:=by rw [flatQ_len,List.length_drop]
 have htl:(GR.flat encRq (l.take i)).length=i*4:=by rw [flatQ_len,List.length_take,Nat.min_eq_left (by omega)]
 have hcell:∀(W:World),W.heap[g]?=w.heap[g]?→∀j v,(GR.flat encRq l)[j]?=some v→W.cell? ⟨g,j,none⟩=some v:=fun W hW j v hj=>by
  have h2:W.cell? ⟨g,j,none⟩=cur[j]?:=cell_of_row W g j cur 49 (0,0) (hW.trans hblk)
  rw [←htake,List.getElem?_take] at hj
  split at hj
  ·rw [h2,←Array.getElem?_toList];exact hj
  ·cases hj
 have hold:(Builtin.firstCells i0.size i (.slice (some ⟨g,0,none⟩) i cap)).run Tryz.prog w.drew= .ok (GR.flat encRq (l.take i)).toArray w.drew:=by
  rw [hz1]
  exact run_firstCells_some w.drew 4 i ⟨g,0,none⟩ i cap _ htl (fun j v hj=>by
   rw [Addr.add_lit,Nat.zero_add]
   refine hcell w.drew rfl j v ?_
   rw [←(flatQ_cut l i (by omega)).1,List.getElem?_take] at hj
   split at hj
   ·exact hj
   ·cases hj)
 have hkk:(l.length:Int)+1 - (i:Int)=((l.length+1 - i:Nat):Int):=by omega
 have hik:i+(l.length+1 - i)=l.length+1:=by omega
 obtain⟨G,hG⟩:∃G,G=grownCap w (l.length+1) cap 49:=⟨_,rfl⟩;obtain⟨R,hR⟩:∃R:Array Value,R=(GR.flat encRq (l.take i)).toArray++Builtin.zeroCells (Value.cells (.agg #[.int .i64 0,.string ByteArray.empty,.int .i64 0,.int .i64 0])) (l.length+1 - i)++Builtin.zeroCells (Value.cells (.agg #[.int .i64 0,.string ByteArray.empty,.int .i64 0,.int .i64 0])) (G - (l.length+1)):=⟨_,rfl⟩
 have hrz:∀ty,(Builtin.append_ #[28,3] ty #[.slice (some ⟨g,0,none⟩) i cap,.int .i64 ((l.length:Int)+1 - (i:Int))]).run Tryz.prog w= .ok (.slice (some ⟨w.heap.size,0,none⟩) (l.length+1) G) (w.drew.alloc (.cells R 49)):=fun ty=>by
  have h:=Lib.run_append_grow_zeros w 28 3 ty 49 i0 _ .i64 .i64 Tryz.underlying28 Tryz.underlying3 hi0 hz0 (some ⟨g,0,none⟩) i cap _ hold (l.length+1 - i) (by omega) (by omega) (by omega) (by omega) (by rw [hz2];omega) (by rw [hz2,hik];exact growslice_fits hroom (by omega))
  rw [hik,←hG,←hR] at h
  rw [hkk]
  exact h
 have hGn:l.length+1≤G:=by rw [hG];exact grownCap_ge w _ _ _
 have hGm:G≤maxLen:=by rw [hG];exact grownCap_le_maxLen w (l.length+1) cap 49 (by unfold maxLen;omega)
 have hRs:R.size=G*4:=by
  rw [hR];simp only[Array.size_append,List.size_toArray,size_zeroCells,htl];show i*4+(l.length+1 - i)*4+(G - (l.length+1))*4=_
  omega
 have hRl:R.toList.length=G*4:=by rw [show R.toList.length=R.size from Array.length_toList,hRs]
 have hRt:R.toList.take (i*4)=GR.flat encRq (l.take i):=by
  rw [hR];simp only[Array.toList_append,List.append_assoc];rw [←htl,List.take_left]
 clear hR hG hold hkk hik
 have hA:∀W:World,W.heap=(w.drew.alloc (.cells R 49)).heap→∀ty dl dc,dl=l.length+1 - i→(Builtin.copy_ #[28,28] ty #[.slice (some ⟨w.heap.size,i*4,none⟩) dl dc,.slice (some ⟨vb,0,none⟩) 1 1]).run Tryz.prog W= .ok (goInt 1) (W.setRow w.heap.size (rowA R.toList i q).toArray):=fun W hW ty dl dc e1=>by
  subst e1
  have hb:W.heap[w.heap.size]?=some (.cells R 49 (0,0)):=by rw [hW];exact heap_alloc_new w.drew _
  have hvb:W.heap[vb]?=w.heap[vb]?:=by rw [hW];exact Below.heap_alloc w.drew _ vb hvw
  have h:=run_copy_rowN (P:=Tryz.prog) W 28 28 ty 49 4 w.heap.size (i*4) (l.length+1 - i) dc ⟨vb,0,none⟩ 1 1 R 49 (encRq q) Tryz.underlying28 sizeRq hb (by show 4=_;simp only[Nat.min_def];split<;>omega)
   (fun j v hj=>by
    rw [World.cell?_of_block (w:=w) (a:=(⟨vb,0,none⟩:Addr).add j) (by rw [Addr.add_lit];exact hvb)]
    exact World.news_of_block hv j v hj)
   (by show i*4+4≤_;omega) (encRq_one q)
  rw [show Nat.min 1 (l.length+1 - i)=1 by simp only[Nat.min_def];split<;>omega] at h
  exact h
 have hBb:∀W:World,W.heap=((w.drew.alloc (.cells R 49)).setRow w.heap.size (rowA R.toList i q).toArray).heap→W.heap[w.heap.size]?=some (.cells (rowA R.toList i q).toArray 49 (0,0))∧W.heap[g]?=w.heap[g]?:=fun W hW=>by
  rw [hW]
  exact⟨setRow_heap _ w.heap.size R _ 49 _ (heap_alloc_new w.drew _),(setRow_other _ w.heap.size g _ (by omega)).trans (Below.heap_alloc w.drew _ g hgw)⟩
 have hB:∀W:World,W.heap=((w.drew.alloc (.cells R 49)).setRow w.heap.size (rowA R.toList i q).toArray).heap→∀ty dl sl dc sc,dl=l.length - i→sl=l.length - i→(Builtin.copy_ #[28,28] ty #[.slice (some ⟨w.heap.size,(i+1)*4,none⟩) dl dc,.slice (some ⟨g,i*4,none⟩) sl sc]).run Tryz.prog W= .ok (goInt ((l.length - i:Nat):Int)) (W.setRow w.heap.size (rowB R.toList l i q).toArray):=fun W hW ty dl sl dc sc e1 e2=>by
  subst e1 e2
  obtain⟨hb1,hb2⟩:=hBb W hW
  have h:=run_copy_rowN (P:=Tryz.prog) W 28 28 ty 49 4 w.heap.size ((i+1)*4) (l.length - i) dc ⟨g,i*4,none⟩ (l.length - i) sc (rowA R.toList i q).toArray 49 (GR.flat encRq (l.drop i)) Tryz.underlying28 sizeRq hb1 (by rw [hdl];simp only[Nat.min_def];split<;>omega)
   (fun j v hj=>by
    rw [Addr.add_lit]
    exact hcell W hb2 _ v (by rw [←List.getElem?_drop,(flatQ_cut l i (by omega)).2];exact hj))
   (by rw [hdl,List.size_toArray,rowA_len _ _ _ (by omega)];omega) (fun v hv=>flatRq_one _ v hv)
  rw [hdl,show Nat.min (l.length - i) (l.length - i)=l.length - i by simp only[Nat.min_def];split<;>omega] at h
  exact h
 have HFIN:=hide (show∀W:World,W.heap=((w.drew.alloc (.cells R 49)).setRow w.heap.size (rowA R.toList i q).toArray).heap→W.os=w.os→W.tape=w.tape→W.output=w.output→
  (W.setRow w.heap.size (rowB R.toList l i q).toArray).heap[w.heap.size]?=some (.cells (rowB R.toList l i q).toArray 49 (0,0))∧w.grownBy (W.setRow w.heap.size (rowB R.toList l i q).toArray) none from fun W hW e1 e2 e3=>by
  obtain⟨hb1,hb2⟩:=hBb W hW
  refine⟨setRow_heap _ w.heap.size _ _ 49 _ hb1,⟨e1,e2,e3,?_,fun k hk _=>?_⟩⟩
  ·have:=congrArg Array.size hW;simp at this ⊢;omega
  ·refine(setRow_other _ w.heap.size k _ (by omega)).trans ?_;rw [hW]
   exact(setRow_other _ w.heap.size k _ (by omega)).trans (Below.heap_alloc w.drew _ k hk))
 have HSZ:=hide (show(rowB R.toList l i q).toArray.size=G*4 by rw [List.size_toArray,rowB_len _ _ _ _ hi (by omega),hRl]);have HTK:=hide (show(rowB R.toList l i q).toArray.toList.take ((l.length+1)*4)=_ from rowB_take R.toList l i q hi (by omega) hRt);open Sa253 in exact Ya67
def insA (l:List Rq) (i:Nat) (q:Rq):List Rq:=l.take i++q::l.drop i
theorem insA_len (l:List Rq) (i:Nat) (q:Rq) (hi:i≤l.length):(insA l i q).length=l.length+1:=by
 unfold insA;rw [List.length_append,List.length_cons,List.length_take,List.length_drop];omega
theorem insReq (B:Nat) (a:Option Addr) (cap i:Nat) (l:List Rq) (q:Rq) (vb:Nat) (w:World) (hl:l.length≤1000) (hi:i≤l.length) (hB:B≤w.heap.size) (ho:w.ownsRow B 49 4 (.slice a l.length cap) l.length (GR.flat encRq l)) (hv:w.heap[vb]?=some (.cells #[.int .i64 q.no,.string q.k,.int .i64 q.n,.int .i64 q.s] 49 (0,0))) (hne:∀x,(Value.slice a l.length cap).ownBlock=some x→vb≠x):
 Calls Tryz.prog 188 #[.slice a l.length cap,.int .i64 i,.slice (some ⟨vb,0,none⟩) 1 1] w (GivesQ w B (.slice a l.length cap) (insA l i q)):=by
 have hlen:=insA_len l i q hi;by_cases he:i=l.length
 ·subst he;have e:insA l l.length q=l++[q]:=by unfold insA;rw [List.take_length,List.drop_length]
  rw [e];exact insReq_end B a cap l q vb w hl hB ho hv
 have hi2:i < l.length:=by omega
 have hfl:(GR.flat encRq (insA l i q)).length=(l.length+1)*4:=by rw [flatQ_len,hlen]
 open Sa276 in exact Ya75
end Go.Proofs.YtppmcficiphgdaaGreatDoor
