/- Parts. -/
import Derived.Test.YtfmdndhliinhpaaGreatDoorRa16
namespace Go.Proofs.YtfmdndhliinhpaaGreatDoor
set_option maxHeartbeats 4000000
set_option maxRecDepth 100000
open Go.RowKit Go.Maps
open Mth
abbrev Bu (x:Int):Lit:= .int .i64 x
theorem Yu {a b:Int} (h:a≠b):Bu a≠Bu b:=fun e=>h (by injection e)
theorem oD:Keyed Tryz.prog 3:=int_keyed Tryz.underlying3
theorem JL (x:Int) (h0:0≤x) (h1:x≤1000000000):keyOf Tryz.prog 3 (.int .i64 x)=some (Bu x):=keyOf_int_mk Tryz.underlying3 (by simp only[Lit.wf,Bool.and_eq_true,decide_eq_true_eq];constructor<;>(first|omega|(unfold IntKind.min;simp;omega)|(unfold IntKind.max;simp;omega)|(simp[IntKind.min,IntKind.max,IntKind.bits,IntKind.signed];omega)))
theorem Ww (w:World):(zeroValue 157).run Tryz.prog w= .ok (.agg #[]) w:=by kernel_rfl
def eY (w:World) (mb n:Nat) (l:List Int):Prop:=∃D:DataW Unit,w.ownsMap Tryz.prog 3 unitElem mb n D∧∀x,Maps.has D (Bu x)=decide (x∈l)
theorem eY.made (w:World):eY (w.alloc (.map #[] 0)) w.heap.size 0 []:=⟨_,World.ownsMap_made w _ _ _,fun x=>by simp[Maps.has]⟩
theorem eY.lt {w:World} {mb n:Nat} {l:List Int} (h:eY w mb n l):mb < w.heap.size:=h.choose_spec.1.lt
theorem eY.kept {w w':World} {mb n:Nat} {l:List Int} (h:eY w mb n l) (hb:w'.heap[mb]?=w.heap[mb]?):eY w' mb n l:=by
 exact acp
theorem eY.mono {w:World} {mb n n':Nat} {l:List Int} (h:eY w mb n l) (hn:n≤n'):eY w mb n' l:=by
 obtain⟨D,h1,h2⟩:=h;exact⟨D,h1.mono hn,h2⟩
theorem eY.same {w:World} {mb n:Nat} {l l':List Int} (h:eY w mb n l) (he:∀x,x∈l↔x∈l'):eY w mb n l':=by
 obtain⟨D,h1,h2⟩:=h;exact⟨D,h1,fun x=>by rw [h2 x,decide_eq_decide];exact he x⟩
theorem eY.look {w:World} {mb n:Nat} {l:List Int} (h:eY w mb n l) (x:Int) (h0:0≤x) (h1:x≤1000000000):
 (Instr.lookup 154 (.map (some mb)) (.int .i64 x) true).run Tryz.prog w= .ok (.tuple #[.agg #[],.bool (decide (x∈l))]) w:=by
 obtain⟨D,hown,ha⟩:=h;obtain⟨v,ps,hrun,hv⟩:=hown.look_ok oD Tryz.underlying154 (Ww w) unitElem_mk (JL x h0 h1);rw [hrun,ha x,(unitElem_inv hv).1]
theorem eY.store {w:World} {mb n:Nat} {l:List Int} (h:eY w mb n l) (x:Int) (h0:0≤x) (h1:x≤1000000000) (hn:n < maxLen):
 ∃w',(Instr.mapUpdate 154 (.map (some mb)) (.int .i64 x) (.agg #[])).run Tryz.prog w= .ok () w'∧eY w' mb (n+1) (x::l)∧Keeps mb w w':=by
 obtain⟨D,hown,ha⟩:=h;obtain⟨w',hrun,g1,g2⟩:=hown.store oD Tryz.underlying154 hn (JL x h0 h1) unitElem_mk;refine⟨w',hrun,⟨_,g1,fun y=>?_⟩,mO g2⟩;by_cases e:y=x
 ·subst e;rw [has_put_same hown.isMap (show WideAt.IsKeyLit (Bu y) from trivial)];simp
 ·rw [has_put_other (Yu e),ha y];simp[e]
theorem eY.keys {w:World} {mb n:Nat} {D:DataW Unit} {l:List Int} (hown:w.ownsMap Tryz.prog 3 unitElem mb n D) (ha:∀x,Maps.has D (Bu x)=decide (x∈l)) (hl:l.Nodup):l.Perm (intKeys D):=by
 obtain⟨es,hD,hpw,_⟩:=hown.entries oD;obtain⟨es',hD',hko⟩:=hown.keysOf;obtain rfl:es=es':=by rw [hD] at hD';simpa using hD'
 subst hD;exact perm_intKeys hpw (fun p hp=>by obtain⟨v,hv⟩:=hko p hp;obtain⟨x,_,hx,_⟩:=Maps.keyOf_i64 Tryz.underlying3 hv;exact⟨x,hx⟩) hl (fun x=>by rw [ha x];simp)
theorem EI {w:World} {mb n:Nat} {D:DataW Unit} (hown:w.ownsMap Tryz.prog 3 unitElem mb n D):Maps.size D=(intKeys D).length:=by
 obtain⟨es,hD,_⟩:=hown.entries oD;subst hD;simp[Maps.size,intKeys]
theorem eY.len {w:World} {mb n:Nat} {l:List Int} (h:eY w mb n l) (hl:l.Nodup) (ty:TypeId):(Builtin.len_ #[154] ty #[.map (some mb)]).run Tryz.prog w= .ok (.int .i64 l.length) w:=by
 obtain⟨D,hown,ha⟩:=h;rw [hown.len Tryz.underlying154 ty,EI hown,(eY.keys hown ha hl).length_eq]
theorem aef (B sb mb:Nat) (low x:Int) (w:World) (h1:w.heap[B]?=some (.cells #[.pointer (some ⟨sb,0,none⟩)] 128 (0,0))) (h2:w.heap[sb]?=some (.cells #[.int .i64 low,.map (some mb)] 156 (0,0))):
 Calls Tryz.prog 129 #[.int .i64 x,.agg #[],.pointer (some ⟨B,0,none⟩)] w fun e w'=>e= .returned (.bool (decide (x < low)))∧Below w.heap.size w w':=by
 have hB:=aA h1;have hS:=aA h2;have c0:w.cell? ⟨B,0,none⟩=some (.pointer (some ⟨sb,0,none⟩)):=cell_of_row w B 0 _ _ (0,0) h1;have c1:w.cell? ⟨sb,0,none⟩=some (.int .i64 low):=cell_of_row w sb 0 _ _ (0,0) h2;clear h1 h2;go_enter Tryz.func129,Tryz.ntmps129
 exact XU
def wL (low:Int):Lit→DataW Unit→Bool
 | .int _ x,_=>decide (x < low)
 |_,_=>false
theorem P8 {w:World} {mb n:Nat} {l:List Int} {es:List (Lit×DataW Unit)} (low:Int) (hown:w.ownsMap Tryz.prog 3 unitElem mb n (.map es)) (ha:∀x,Maps.has (.map es) (Bu x)=decide (x∈l)) (x:Int):
 Maps.has (Lib.deleteFuncD (wL low) (.map es)) (Bu x)=decide (x∈l.filter (fun x=>decide (low≤x))):=by
 obtain⟨es',hD',hko⟩:=hown.keysOf;obtain rfl:es=es':=by simpa using hD'
 have hx:=ha x;rw [Bool.eq_iff_iff,decide_eq_true_iff,has_eq,List.any_eq_true] at hx;show Maps.has (.map (es.filter fun p=> !wL low p.1 p.2)) (Bu x)=_
 rw [Bool.eq_iff_iff,decide_eq_true_iff,has_eq,List.any_eq_true,List.mem_filter,←hx,decide_eq_true_iff];constructor
 ·rintro⟨p,hp,hs⟩;obtain⟨hp1,hp2⟩:=List.mem_filter.1 hp;refine⟨⟨p,hp1,hs⟩,?_⟩;obtain⟨v,hv⟩:=hko p hp1;obtain⟨y,_,hy,_⟩:=Maps.keyOf_i64 Tryz.underlying3 hv;rw [hy] at hs hp2;have e:y=x:=by simpa [Lit.sameKey] using hs
  subst e;simpa [wL] using hp2
 ·rintro⟨⟨p,hp1,hs⟩,hle⟩;obtain⟨v,hv⟩:=hko p hp1;obtain⟨y,_,hy,_⟩:=Maps.keyOf_i64 Tryz.underlying3 hv;have hs':=hs;rw [hy] at hs';have e:y=x:=by simpa [Lit.sameKey] using hs'
  subst e;exact⟨p,List.mem_filter.2 ⟨hp1,by rw [hy];simpa [wL] using hle⟩,hs⟩
theorem BH {w w':World} {b:Nat} (g:w.grownBy w' (some b)):_root_.Go.Proofs.YtfmdndhliinhpaaGreatDoor.Keeps b w w':=⟨g.os,g.tape,g.output,g.size,fun k hk hne=>g.block k hk (fun e=>hne (Option.some.inj e))⟩
theorem gD {w w':World} (h:Below w.heap.size w w') (row:Option Nat):w.grownBy w' row:=⟨h.os,h.tape,h.output,h.size,fun k hk _=>h.block k hk⟩
theorem adI (B sb mb n:Nat) (low:Int) (l:List Int) (w:World) (h1:w.heap[B]?=some (.cells #[.pointer (some ⟨sb,0,none⟩)] 128 (0,0))) (h2:w.heap[sb]?=some (.cells #[.int .i64 low,.map (some mb)] 156 (0,0))) (hs:eY w mb n l):
 Calls Tryz.prog 128 #[.map (some mb),.func (.func 129) #[] #[.pointer (some ⟨B,0,none⟩)]] w fun e w'=>e= .returned (.tuple #[])∧eY w' mb n (l.filter (fun x=>decide (low≤x)))∧Keeps mb w w':=by
 obtain⟨D,hown,ha⟩:=hs;obtain⟨es0,rfl,hap,hkeys⟩:=hown.entries oD;have hmap:∃es clock,w.heap[mb]?=some (.map es clock):=by obtain⟨es,clock,hb,_⟩:=hown;exact⟨es,clock,hb⟩
 obtain⟨es1,clock1,hmb⟩:=hmap;have hBm:B≠mb:=fun e=>by rw [e,hmb] at h1;cases h1
 have hSm:sb≠mb:=fun e=>by rw [e,hmb] at h2;cases h2
 have HA:=hide (P8 (n:=n) low hown ha);have HD:=hide (fun(W:World) (x:Int) (hg:w.grownBy W (some mb))=>aef B sb mb low x W ((hg.block B (aA h1) (by simpa using hBm)).trans h1) ((hg.block sb (aA h2) (by simpa using hSm)).trans h2));clear h1 h2 hmb hBm hSm ha;go_enter Tryz.func128,Tryz.ntmps128
 go_wp2_with (first
  |(at_range;refine wpList_range_own _ rfl _ 154 rfl 3 157 oD Tryz.underlying154 unitElem mb n _ rfl hown ?_;intro w0 hrg0 hg0 hs0)
  |go_in)
 go_frame
 go_loopw [8] (fun _ wr=>∃(left:Lit→Bool) (cnt:Nat),wr.ranges Tryz.prog 3 unitElem mb w.heap.size n (Fk (wL low) es0 left) left cnt∧w.grownBy wr (some mb))
  (fun _ wr=>wr.rangeLeft mb w.heap.size)
 case atStart=>exact⟨_,_,by rw [Fk_start hkeys];exact hrg0,hg0.but _⟩
 case round=>
  obtain⟨left,cnt,hrg,hgw⟩:=hrel
  go_wp2_with (first
   |(at_next;refine wpList_next_ranges _ rfl _ rfl 3 oD unitElem (Value.int .i64) (fun _:Unit=>Value.agg #[]) (fun key kl hk=>by obtain⟨x,hx,_⟩:=Maps.keyOf_i64 Tryz.underlying3 hk;exact⟨x,hx⟩) (fun v y hv=>⟨(),(unitElem_inv hv).1⟩) mb w.heap.size n _ _ _ rfl hrg ?_ ?_)
   |go_in)
  ·
   intro _ hl0
   go_wp2_with fail
   go_end0
   refine⟨rfl,⟨_,?_,HA⟩,BH hgw⟩
   rw [←Fk_end hl0]
   exact hrg.owns
  ·
   intro x kl yd yp w1 cnt1 hkey hlx hv hat hrg1 hlt hg1 hs1 hen
   obtain⟨x',ex,rfl,_⟩:=Maps.keyOf_i64 Tryz.underlying3 hkey
   cases ex
   have hgw1:=hgw.andThen hg1 (fun j hj=>by cases hj;exact Or.inl (Nat.le_refl _))
   have hc:=hide (HD (w1.alloc (.cells #[] 157)) x (hgw1.andThen (World.grownBy_alloc w1 _ none) (fun j hj=>by cases hj)))
   have arU:=hrg1.alloc (.cells #[] 157)
   have hgA:=hgw1.andThen (World.grownBy_alloc w1 (.cells #[] 157) none) (fun j hj=>by cases hj)
   by_cases hx:x < low
   ·have hp:wL low (Bu x) yd=true:=by simpa [wL] using hx
    have hq:decide (x < low)=true:=by simpa using hx
    go_wp2_with (first
     |(go_at_call 129;refine hc.mono ?_;rintro e w2 ⟨rfl,hb2⟩;have hrg2:=arU.kept (gD hb2 none) (by simp) (by simp))
     |(at_delete;refine wpList_delete_ranges _ rfl _ _ 154 3 rfl 157 oD Tryz.underlying154 unitElem mb w.heap.size n _ _ _ rfl hrg2 _ _ rfl hkey ?_;intro w3 cnt3 hrg3 hle hturn;go_frame)
     |go_in)
    rw [strike_twice] at hrg3;go_roundw
    case rel=>exact⟨_,cnt3,by rw [←Fk_struck hap (oD.key hkey) hlx hp hat];exact hrg3,(hgA.andThen (gD hb2 none) (fun j hj=>by cases hj)).andThen hturn.grown (fun j hj=>by cases hj;exact Or.inr rfl)⟩
    case measure=>rw [hrg3.left_eq,hrg.left_eq];omega
   ·have hp:wL low (Bu x) yd=false:=by simpa [wL] using hx
    have hq:decide (x < low)=false:=by simpa using hx
    go_wp2_with (first
     |(go_at_call 129;refine hc.mono ?_;rintro e w2 ⟨rfl,hb2⟩;have hrg2:=arU.kept (gD hb2 none) (by simp) (by simp))
     |go_in)
    go_roundw
    case rel=>exact⟨_,cnt1,by rw [←Fk_stays hap (oD.key hkey) hlx hp hat];exact hrg2,hgA.andThen (gD hb2 none) (fun j hj=>by cases hj)⟩
    case measure=>rw [hrg2.left_eq,hrg.left_eq];exact hlt
end Go.Proofs.YtfmdndhliinhpaaGreatDoor
namespace Go.Proofs
open Go.Shelf
def Tryz.keysL_ren:Go.Shelf.Ren:=⟨fun|7=>132|10=>150|n=>n,fun|23=>154|26=>3|3=>157|28=>163|0=>0|27=>162|33=>59|4=>4|n=>n,fun|n=>n⟩
theorem Tryz.keysL:Go.Proofs.SlLaysZI.n7 Tryz.prog Tryz.keysL_ren:={
 mixed:=by kernel_rfl
 f7:=⟨Tryz.f132.name,by decide,Tryz.func132.trans (congrArg some (by kernel_rfl))⟩
 f10:=⟨Tryz.f150.name,by decide,Tryz.func150.trans (congrArg some (by kernel_rfl))⟩
 t0:=Tryz.underlying0
 a0:=Tryz.isAgg0
 z0:=Tryz.sizeOf0
 v0:=Tryz.zeroValue0
 t4:=Tryz.underlying4
 a4:=Tryz.isAgg4
 z4:=Tryz.sizeOf4
 v4:=Tryz.zeroValue4
 t23:=Tryz.underlying154
 a23:=Tryz.isAgg154
 z23:=Tryz.sizeOf154
 v23:=Tryz.zeroValue154
 t26:=Tryz.underlying3
 a26:=Tryz.isAgg3
 z26:=Tryz.sizeOf3
 v26:=Tryz.zeroValue3
 t27:=Tryz.underlying162
 a27:=Tryz.isAgg162
 z27:=Tryz.sizeOf162
 v27:=Tryz.zeroValue162
 t28:=Tryz.underlying163
 a28:=Tryz.isAgg163
 z28:=Tryz.sizeOf163
 v28:=Tryz.zeroValue163
 t33:=Tryz.underlying59
 a33:=Tryz.isAgg59
 z33:=Tryz.sizeOf59
 v33:=Tryz.zeroValue59}
def Tryz.sortedL_ren:Go.Shelf.Ren:=⟨fun|6=>131|8=>149|9=>101|11=>164|13=>121|12=>120|23=>142|24=>143|14=>133|15=>134|16=>135|17=>136|18=>137|19=>138|20=>139|21=>140|22=>141|25=>151|26=>152|27=>153|28=>154|29=>155|30=>156|31=>165|n=>n,fun|26=>3|28=>163|24=>24|0=>0|3=>3|37=>109|48=>174|50=>176|4=>4|40=>167|39=>166|45=>98|5=>5|9=>9|51=>183|55=>187|57=>203|58=>204|33=>59|n=>n,fun|n=>n⟩
theorem Tryz.sortedL:Go.Proofs.SlLaysZI.n6 Tryz.prog Tryz.sortedL_ren:={
 mixed:=by kernel_rfl
 f6:=⟨Tryz.f131.name,by decide,Tryz.func131.trans (congrArg some (by kernel_rfl))⟩
 f8:=⟨Tryz.f149.name,by decide,Tryz.func149.trans (congrArg some (by kernel_rfl))⟩
 f11:=⟨Tryz.f164.name,by decide,Tryz.func164.trans (congrArg some (by kernel_rfl))⟩
 t0:=Tryz.underlying0
 a0:=Tryz.isAgg0
 z0:=Tryz.sizeOf0
 v0:=Tryz.zeroValue0
 t24:=Tryz.underlying24
 a24:=Tryz.isAgg24
 z24:=Tryz.sizeOf24
 v24:=Tryz.zeroValue24
 t26:=Tryz.underlying3
 a26:=Tryz.isAgg3
 z26:=Tryz.sizeOf3
 v26:=Tryz.zeroValue3
 t28:=Tryz.underlying163
 a28:=Tryz.isAgg163
 z28:=Tryz.sizeOf163
 v28:=Tryz.zeroValue163
 i26:=by kernel_rfl}
end Go.Proofs
namespace Go.Proofs.YtfmdndhliinhpaaGreatDoor
set_option maxHeartbeats 2000000
set_option maxRecDepth 100000
open Go.RowKit Go.Maps
open Mth
abbrev jI (w:World) (sb mb:Nat) (low:Int):Prop:=w.heap[sb]?=some (.cells #[.int .i64 low,.map (some mb)] 156 (0,0))
theorem aC.of_keeps {g:Nat} {w w':World} (h:Keeps g w w'):aC [g] w w':=⟨h.os,h.tape,h.output,h.size,fun k hk hg=>h.block k hk (by simpa using hg)⟩
theorem eY.ne {w:World} {sb mb n:Nat} {low:Int} {l:List Int} (h:eY w mb n l) (hs:jI w sb mb low):sb≠mb:=fun e=>by
 obtain⟨D,⟨es,clock,hb,_⟩,_⟩:=h;unfold jI at hs;rw [e,hb] at hs;cases hs
theorem eY.far {w:World} {g mb n:Nat} {l:List Int} {cs:Array Value} {t:TypeId} {q:Nat×Nat} (h:eY w mb n l) (hs:w.heap[g]?=some (.cells cs t q)):g≠mb:=fun e=>by
 obtain⟨D,⟨es,clock,hb,_⟩,_⟩:=h;rw [e,hb] at hs;cases hs
theorem adO (sb mb n:Nat) (low x:Int) (l:List Int) (w:World) (h0:0≤x) (h1:x≤1000000000) (hb:jI w sb mb low) (hs:eY w mb n l):
 Calls Tryz.prog 115 #[.pointer (some ⟨sb,0,none⟩),.int .i64 x] w fun e w'=>e= .returned (.bool (decide (x < low)||decide (x∈l)))∧Below w.heap.size w w':=by
 have hsl:=aA hb;obtain⟨⟨m0,m1⟩,_⟩:=lF hb;have hrun:=hs.look x h0 h1;clear hb hs;cases hm:decide (x∈l)
 ·rw [hm] at hrun;go_enter Tryz.func115,Tryz.ntmps115
  exact XU
 ·rw [hm] at hrun;go_enter Tryz.func115,Tryz.ntmps115
  exact XU
theorem YA (sb mb n:Nat) (ar3 low L:Int) (l:List Int) (w:World) (hL:max ar3 low=L) (hb:jI w sb mb ar3) (hs:eY w mb n l):
 Calls Tryz.prog 114 #[.pointer (some ⟨sb,0,none⟩),.int .i64 low] w fun e w'=>e= .returned (.tuple #[])∧jI w' sb mb L∧eY w' mb n (l.filter (fun x=>decide (L≤x)))∧aC [sb,mb] w w':=by
 have hsl:=aA hb;have hml:=hs.lt;have hne:=hs.ne hb;have HB:=hide hb;have HS:=hide hs;obtain⟨⟨m0,m1⟩,f0,f1⟩:=lF hb;have HL:=hide hL;clear hb hs hL;go_enter Tryz.func114,Tryz.ntmps114
 go_upto_region 2 with fail;go_region
 rw [ah HL];go_upto_region 2 with fail;refine wp_at (fun W hW=>?_);have hsz:(w.setCell ⟨sb,0,none⟩ (.int .i64 L)).heap.size=w.heap.size:=by simp[World.setCell]
 have e1:W.heap[w.heap.size]?=some (.cells #[.pointer (some ⟨sb,0,none⟩)] 128 (0,0)):=by
  rw [hW,←hsz];exact heap_alloc_new _ _
 have e2:jI W sb mb L:=by
  have h1:(w.setCell ⟨sb,0,none⟩ (.int .i64 L)).heap[sb]?=some (.cells #[.int .i64 L,.map (some mb)] 156 (0,0)):=bg HB 0 (.int .i64 L);rw [hW];exact(Below.heap_alloc _ _ _ (by rw [hsz];exact hsl)).trans h1
 have e3:eY W mb n l:=HS.kept (by
  rw [hW]
  exact(Below.heap_alloc _ _ _ (by rw [hsz];exact hml)).trans (Below.heap_setCell _ _ _ _ hne.symm))
 have e4:aC [sb,mb] w W:=by
  rw [hW];refine⟨rfl,rfl,rfl,by simp[World.setCell],fun k hk hkn=>?_⟩;have h1:k≠sb:=fun e=>hkn (by simp[e])
  exact(Below.heap_alloc _ _ _ (by rw [hsz];exact hk)).trans (Below.heap_setCell _ _ _ _ h1)
 have m0:W.cell? ⟨w.heap.size,0,none⟩=some (.pointer (some ⟨sb,0,none⟩)):=cell_of_row W _ 0 _ _ (0,0) e1;obtain⟨⟨m1,m2⟩,_⟩:=lF e2;have hwl:=aA e1;have hsl2:=aA e2;have HD:=hide (adI w.heap.size sb mb n L l W e1 e2 e3);have E2:=hide e2;have E4:=hide e4;clear hW e1 e2 e3 e4 HB HS;go_wp2_with fail;refine HD.mono ?_;rintro e w' ⟨rfl,g1,g2⟩;have G1:=hide g1;have G2:=hide g2;clear g1 g2 HD m0 m1 m2;go_wp2_with fail;refine bodyPost_end (v:= .tuple #[]) (by simp[results,Tryz.results114,go_sem]) rfl ⟨rfl,?_,G1,E4.trans ((aC.of_keeps G2).mono (by simp))⟩;unfold jI;rw [(ah G2).block sb hsl2 hne];exact E2
theorem setOf (f low:Int) (a:Option Addr) (cap:Nat) (ids:List Int) (w:World) (hl:ids.length≤40) (hb:∀x∈ids,0≤x∧x≤1000000000) (ha:dM w a ids):
 Calls Tryz.prog 113 #[.agg #[.int .i64 f,.int .i64 low,.slice a ids.length cap]] w fun e w'=>∃sb mb,e= .returned (.pointer (some ⟨sb,0,none⟩))∧w.heap.size≤sb∧w.heap.size≤mb∧jI w' sb mb low∧eY w' mb ids.length ids∧Below w.heap.size w w':=by
 have hmm:= @run_makeMap Tryz.prog;have HA:=hide ha;have HBD:=hide hb;clear ha hb;go_enter Tryz.func113,Tryz.ntmps113
 go_wp2_with fail;go_loopw [14] (fun i wr=>∃k:Nat,k≤ids.length∧i= .int .i64 k∧jI wr (w.heap.size+1+1) (w.heap.size+1) low∧eY wr (w.heap.size+1) k (ids.take k)∧Below w.heap.size w wr) (fun i _=>ids.length - (intOf i).toNat)
 case atStart=>
  have hz:∀(u:World) (o:Obj),(u.alloc o).heap.size=u.heap.size+1:=fun u o=>by simp
  have hM:=eY.made (w.alloc (.cells #[.int .i64 f,.int .i64 low,.slice a ids.length cap] 57));have hS:=heap_alloc_new ((w.alloc (.cells #[.int .i64 f,.int .i64 low,.slice a ids.length cap] 57)).alloc (.map #[] 0)) (.cells #[.int .i64 low,.map (some (w.heap.size+1))] 156);rw [hz] at hM;rw [hz,hz] at hS;refine⟨0,Nat.zero_le _,rfl,hS,?_,?_⟩
  ·refine hM.kept ?_;exact Below.heap_alloc _ _ _ (by rw [hz,hz];omega)
  ·exact((ay w _).alloc (by rw [hz];omega) _).alloc (by rw [hz,hz];omega) _
 case round=>
  obtain⟨k,hk,rfl,hS,hI,hbw⟩:=hrel;have HS:=hide hS;have HI:=hide hI;have iJ:=hide hbw;obtain⟨⟨m0,m1⟩,_⟩:=lF hS;have hsl:=aA hS;clear hS hI hbw hmm;by_cases hlt:k < ids.length
  ·obtain⟨g,off,rfl,hgw,q0⟩:=dM.one (GR.At.below HA iJ) k hlt;have HB:=hide (HBD ids[k] (List.getElem_mem hlt));have HT:=hide (show∀x,x∈ids[k]::ids.take k↔x∈ids.take (k+1) from fun x=>by rw [List.take_succ_eq_append_getElem hlt,List.mem_cons,List.mem_append,List.mem_singleton,or_comm]);generalize ids[k]=ik at *;obtain⟨w2,hrun,hI2,hK2⟩:=HI.store ik HB.1 HB.2 (by unfold maxLen;omega);have HI2:=hide hI2;have EY:=hide hK2;clear hI2 hK2;go_wp2_with fail;go_roundw
   case rel=>
    refine⟨k+1,by omega,by go_num,?_,HI2.same HT,?_⟩
    ·unfold jI;rw [(ah EY).block _ hsl (by omega)];exact HS
    ·exact iJ.trans ⟨EY.os,EY.tape,EY.output,EY.size,fun j hj=>EY.block j (by have:=iJ.size;omega) (by omega)⟩
   case measure=>simp[intOf];omega
  ·have hke:k=ids.length:=by omega
   subst hke;have hnlt:decide ((ids.length:Int) < (ids.length:Int))=false:=by simp
   go_wp2_with fail;go_ret;refine⟨_,_,rfl,by omega,by omega,HS,?_,iJ⟩;have h:=ah HI;rwa [List.take_length] at h
end Go.Proofs.YtfmdndhliinhpaaGreatDoor
namespace Go.Proofs.YtfmdndhliinhpaaGreatDoor
set_option maxHeartbeats 2000000
set_option maxRecDepth 100000
open Go.RowKit Go.Maps Go.Sort
open Mth
theorem aev (m:Nat):AnyZI.SortsIn Tryz.prog Tryz.sortedL_ren Fence.wide m:=
 ⟨fun blk off cap ss W hH hblk hsz=>callsIn_wide.2 (AnyM.slices_Sort_int Tryz.sortL blk off cap ss W hH hblk hsz),
  fun p cap W=>callsIn_wide.2 (AnyM.slices_Sort_int_none Tryz.sortL p cap W)⟩
theorem Yx (mb:Option Nat) (W:World):Calls Tryz.prog 132 #[.map mb] W fun e w'=>e= .returned (.func (.func 150) #[] #[.pointer (some ⟨W.heap.size,0,none⟩)])∧w'=W.alloc (.cells #[.map mb] 154):=
 callsIn_wide.1 (AnyZI.keys_in Tryz.keysL Fence.wide 5 trivial rfl mb W)
theorem Wm {l ss:List Int} (hp:l.Pairwise (· < ·)) (h:ss.Perm l):ss.mergeSort (fun x y=>decide (x≤y))=l:=by
 have h1:ss.mergeSort leI=l.mergeSort leI:=mergeSort_of_perm_i h;refine h1.trans (List.mergeSort_of_pairwise ?_);exact hp.imp (fun {a b} h=>by simp only[leI,decide_eq_true_eq];omega)
theorem QO (B mb n:Nat) (l:List Int) (W:World) (hl:l.length≤1000) (hp:l.Pairwise (· < ·)) (hB:W.heap[B]?=some (.cells #[.map (some mb)] 154 (0,0))) (hs:eY W mb n l):
 Calls Tryz.prog 131 #[.func (.func 150) #[] #[.pointer (some ⟨B,0,none⟩)]] W fun e w'=>∃v,e= .returned v∧w'.ownsRow W.heap.size 3 1 v l.length (GR.flat aP l)∧Below W.heap.size W w':=by
 obtain⟨D,hown,ha⟩:=hs;have hk:=eY.keys hown ha (hp.imp (fun h=>by omega));have hsz:Maps.size D=l.length:=by rw [EI hown,hk.length_eq]
 have hcell:W.cell? ⟨B,0,none⟩=some (.map (some mb)):=cell_of_row W B 0 _ _ (0,0) hB
 have hseq:SeqGives Fence.wide 2 Tryz.prog 150 #[.pointer (some ⟨B,0,none⟩)] encZ (fun ss=>ss.Perm (intKeys D)) (Maps.size D) W:=
  AnyZI.keys_gives (ρ:=Tryz.keysL_ren) {Tryz.keysL with} Fence.wide _ trivial rfl (by omega) B mb n D _ (aA hB) hcell hown
 have cS:=AnyZI.sorted_in Tryz.sortedL Fence.wide 5 trivial trivial trivial trivial rfl (by omega) (aev _) (enters_of Tryz.func101 (by kernel_rfl) rfl) 150 #[.pointer (some ⟨B,0,none⟩)] trivial (enters_of Tryz.func150 (by kernel_rfl) rfl) _ _ (by rw [hsz];unfold maxLen;omega) (by rw [hsz];omega) _ hseq;change CallsIn _ _ Tryz.prog 131 _ _ _ at cS
 refine(callsIn_wide.1 cS).mono ?_;rintro e w' ⟨v,ss,rfl,hS,hrow,_,hb⟩;have hperm:ss.Perm l:=hS.trans hk.symm;rw [Wm hp hperm,hperm.length_eq,←Bh] at hrow;exact⟨v,rfl,hrow,hb⟩
theorem tX (sb mb n:Nat) (f low:Int) (l:List Int) (w:World) (hl:l.length≤1000) (hp:l.Pairwise (· < ·)) (hb:jI w sb mb low) (hs:eY w mb n l):
 Calls Tryz.prog 117 #[.pointer (some ⟨sb,0,none⟩),.int .i64 f] w fun e w'=>∃v,e= .returned (.agg #[.int .i64 f,.int .i64 low,v])∧w'.ownsRow w.heap.size 3 1 v l.length (GR.flat aP l)∧Below w.heap.size w w':=by
 have hsl:=aA hb;have HB:=hide hb;have HS:=hide hs;have Q7:=hide Yx;have AQ:=hide (fun B W (h1:W.heap[B]?=_) (h2:eY W mb n l)=>QO B mb n l W hl hp h1 h2);have hb1:=au hb (ay w (.cells #[.int .i64 0,.int .i64 0,.slice none 0 0] 57));obtain⟨⟨m0,m1⟩,_⟩:=lF hb1;clear hb hs hb1;go_enter Tryz.func117,Tryz.ntmps117
 go_upto_region 1 with fail;have y0:=cell_regrown m0;have y1:=cell_regrown m1;clear m0 m1;refine bJ 12 (by kernel_rfl) ?_;show dZ _ _ _ _ _ 13 (Array.replicate 13 false) _ _
 refine tk [0,1,2,3,4,5,6,7,8] ?_;iterate 9 (refine oJ (fun K hK=>?_);go_simp;refine hK _ ?_;clear hK K)
 refine kK ?_;clear y0 y1;refine dK 9 rfl (by kernel_rfl) (by rfl) (fun x hx=>?_);go_simp;have HX:=hide hx;clear hx;refine(Q7 (some mb) x).mono ?_;rintro e y ⟨rfl,rfl⟩;refine⟨ay x _,?_⟩;refine dK 10 rfl (by kernel_rfl) (by rfl) (fun x2 hx2=>?_);go_simp;have XH:=hide hx2;have h1:x2.heap[x.heap.size]?=some (.cells #[.map (some mb)] 154 (0,0)):=au (heap_alloc_new x _) hx2;have HG:=hide (Ge.trans (Ge.trans HX (ay x _)) hx2);have h2:eY x2 mb n l:=HS.kept ((HG.block mb (by have:=HS.lt;simp;omega)).trans (Below.heap_alloc _ _ _ HS.lt));have HCS:=hide (AQ x.heap.size x2 h1 h2);clear hx2 h1 h2 Q7 AQ XH;refine HCS.mono ?_;rintro e z ⟨v,rfl,hrow,hbz⟩;refine⟨hbz,?_⟩;obtain⟨av,cv,rfl,_⟩:=GR.own_at (enc:=aP) (sz:=1) aN hrow;have HRW:=hide hrow;have HZ:=hide (Ge.trans HG hbz);clear hrow hbz HCS;refine tk [11] ?_;(refine oJ (fun K hK=>?_);go_simp;refine hK _ ?_;clear hK K)
 refine kK ?_;refine aZ (by kernel_rfl) (fun x3 hx3=>?_);have Zb:=hide (Ge.trans HZ hx3);have HR3:=hide (GR.own_below HRW hx3);have e3:x3.heap[w.heap.size]?=some (.cells #[.int .i64 0,.int .i64 0,.slice none 0 0] 57 (0,0)):=au (heap_alloc_new w _) Zb;have f0:=aj e3 0;have f1:=aj e3 1;have f2:=aj e3 2;have hw3:=aA e3;obtain⟨d0,d1,d2⟩:=three e3;have E3:=hide e3;clear e3 hx3 HX HZ HRW;refine aF 12 rfl (by kernel_rfl) (by rfl) ?_;go_simp;refine wpAny_done (by kernel_rfl) ?_;clear d0 d1 d2 f0 f1 f2;go_wp2_with fail;refine aR (fun W' hW'=>?_)
 have e4:W'.heap[w.heap.size]?=some (.cells #[.int .i64 f,.int .i64 low,.slice av l.length cv] 57 (0,0)):=by
  rw [hW'];exact GR.setW_blk [.int .i64 f,.int .i64 low,.slice av l.length cv] (o:=0) (xs:=[.int .i64 0,.int .i64 0,.slice none 0 0]) E3
 have hsw:w.heap.size < x2.heap.size:=by have:=HG.size;simp at this;omega
 have hg:x3.grownBy W' (some w.heap.size):=by
  rw [hW'];exact⟨rfl,rfl,rfl,by simp[World.setCell],fun k _ hk=>GR.setW_other (g':=k) (fun e=>hk (by rw [e])) [.int .i64 f,.int .i64 low,.slice av l.length cv] (o:=0)⟩
 have hne:∀k,(Value.slice av l.length cv).ownBlock=some k→k≠w.heap.size:=fun k hk=>by have:=(HR3.lt k hk).1;omega
 have hrow:W'.ownsRow x2.heap.size 3 1 (.slice av l.length cv) l.length (GR.flat aP l):=by
  refine HR3.kept (row:=some w.heap.size) hg ?_;cases hv:(Value.slice av l.length cv).ownBlock with
  |none=>exact .inl rfl
  |some k=>exact .inr (fun e=>hne k hv (by injection e))
 have hbel:Below w.heap.size w W':=by
  rw [hW'];exact GR.setW_below (Nat.le_refl _) [.int .i64 f,.int .i64 low,.slice av l.length cv] (o:=0) ((ay w _).trans (Zb.mono (by simp)))
 have HRW:=hide (ownsRow_base_a hrow (show w.heap.size≤x2.heap.size by omega));have iJ:=hide hbel;obtain⟨d0,d1,d2⟩:=three e4;clear hW' e4 hg hrow hbel;exact bodyPost_ret (v:= .agg #[.int .i64 f,.int .i64 low,.slice av l.length cv]) (by simp[results,Tryz.results117,go_sem,d0,d1,d2]) rfl ⟨_,rfl,HRW,iJ⟩
end Go.Proofs.YtfmdndhliinhpaaGreatDoor
namespace Go.Proofs.YtfmdndhliinhpaaGreatDoor
set_option maxHeartbeats 8000000
set_option maxRecDepth 100000
open Go.RowKit
open Mth
theorem YN {w0 w x:World} {wb:Nat} {n:Nd} {A:bQ} {G:aX} {c:Nat→Nat} {v:Value} {L:List Mg} (h:WK w0 w wb n A G c v L) {r:List Pu×Bool} {a:Option Addr} {cp g:Nat} (hb:Below w.heap.size w x) (hg:w.heap.size≤g) (hp:uf x a g r.1):
 Calls Tryz.prog 76 #[.pointer (some ⟨wb,0,none⟩),.slice a r.1.length cp,.bool r.2] x fun e w'=>e= .returned (.bool r.2)∧∃A' G' c',WK w0 w' wb (if r.2=true then setPu n r.1 else n) A' G' c' v L∧A'.r=A.r:=by
 obtain⟨l,b⟩:=r;cases b with
 |false=>
  refine(yR wb a l.length cp x).mono ?_
  rintro e w' ⟨rfl,rfl⟩
  exact⟨rfl,A,G,c,h.step hb,rfl⟩
 |true=>
  refine(vD wb n A v a l.length cp x (h.step hb).blk).mono ?_
  rintro e w' ⟨rfl,rfl⟩
  exact⟨rfl,_,_,_,h.setPu hb hp (fun y hy=>by rw [(fD hy).1];exact hg),rfl⟩
theorem WK.reqRow {w0 w:World} {wb:Nat} {n:Nd} {A:bQ} {G:aX} {c:Nat→Nat} {v:Value} {L:List Mg} (h:WK w0 w wb n A G c v L) (i:Nat) (hi:i < n.reqs.length):∃g,A.r=some ⟨g,0,none⟩∧g≠wb∧g < w.heap.size∧(w.cell? ⟨g,i*4,none⟩=some (.int .i64 n.reqs[i].no)∧w.cell? ⟨g,i*4+1,none⟩=some (.string n.reqs[i].k)∧w.cell? ⟨g,i*4+2,none⟩=some (.int .i64 n.reqs[i].n)∧w.cell? ⟨g,i*4+3,none⟩=some (.int .i64 n.reqs[i].s))∧w.frozen? ⟨g,i*4+3,none⟩=false:=by
 obtain⟨a,cp,g,he,hW,hlt,hown⟩:=GR.W.of_own aY h.no.r;have hmem:g∈fp g n.reqs:=dz (by omega);obtain⟨ea,hg,hc,_,_,_,hf⟩:=GR.W.fourReq hW i hi;have hA:A.r=a:=by cases he;rfl
 refine⟨g,by rw [hA,ea],?_,hg,hc,hf⟩;intro hw;have h6:=h.no.cr g (hown g hmem);rw [hw,h.cw] at h6;cases h6
theorem WK.reqSet {w0 w:World} {wb:Nat} {n:Nd} {A:bQ} {G:aX} {c:Nat→Nat} {v:Value} {L:List Mg} (h:WK w0 w wb n A G c v L) (i:Nat) (hi:i < n.reqs.length) (g:Nat) (hg:A.r=some ⟨g,0,none⟩):WK w0 (w.setCell ⟨g,i*4+3,none⟩ (.int .i64 2)) wb (bZ n (n.reqs.set i (iY n.reqs[i]))) A G c v L:=by
 have ho:=h.no.r;have hcr:=h.no.cr;rw [hg] at ho hcr;have hc6:c g=6:=hcr g rfl;have hk:KC c 6 w (w.setCell ⟨g,i*4+3,none⟩ (.int .i64 2)):=KC.set hc6;have hno:=h.no;have hst:=(ho.stored (i*4+3) (.int .i64 2)).1;rw [Jj 2 n.reqs i hi] at hst;have hlen:(n.reqs.set i (iY n.reqs[i])).length=n.reqs.length:=by simp
 refine⟨hk.below h.keep hno.lo (by omega) h.keep.size,?_,⟨hk.w hno.k hno.ck (by omega),hk.w hno.p hno.cp (by omega),hk.own hno.o hno.co (by omega),hk.seen hno.s hno.c4 hno.ci (by omega) (by omega),?_,hno.lo,hno.ck,hno.cp,hno.co,hno.c4,hno.ci,?_,hno.ni⟩,hk.own h.m h.cm (by omega),h.cm,h.cw⟩
 ·have:=hk.obj h.blk (by rw [h.cw];omega);rw [this];show some (Obj.cells #[_,_,_,_,_,_,_,_,.slice A.r n.reqs.length A.cr,_] _ _)=some (Obj.cells #[_,_,_,_,_,_,_,_,.slice A.r (n.reqs.set i (iY n.reqs[i])).length A.cr,_] _ _)
  rw [hlen];rfl
 ·show(w.setCell _ _).ownsRow _ _ _ (.slice A.r (n.reqs.set i (iY n.reqs[i])).length A.cr) (n.reqs.set i (iY n.reqs[i])).length (GR.flat aJ (n.reqs.set i (iY n.reqs[i])))
  rw [hlen,hg];exact hst
 ·show∀x,(Value.slice A.r (n.reqs.set i (iY n.reqs[i])).length A.cr).ownBlock=some x→_
  rw [hlen];exact h.no.cr
theorem KW (w0 w:World) (wb:Nat) (n:Nd) (A:bQ) (G:aX) (c:Nat→Nat) (v:Value) (L:List Mg) (o:iK) (hc:o.no≤n.old) (h:WK w0 w wb n A G c v L):Calls Tryz.prog 48 #[.pointer (some ⟨wb,0,none⟩),jY o] w fun e w'=>e= .returned (.int .i64 (aI n o.no).2)∧∃A' G' c',WK w0 w' wb (aI n o.no).1 A' G' c' v L:=by
 have hR:aI n o.no=(n,2):=if_pos hc;rw [hR];have hd:decide (o.no≤n.old)=true:=decide_eq_true hc;clear hR;open atf in exact Ya8
theorem Nu (w0 w:World) (wb:Nat) (n:Nd) (A:bQ) (G:aX) (c:Nat→Nat) (v:Value) (L:List Mg) (o:iK) (hok:gF n=true) (h0:0≤o.no) (h1:o.no≤1000000000) (hc:¬o.no≤n.old) (hf:jP n.reqs o.no=false) (h:WK w0 w wb n A G c v L):Calls Tryz.prog 48 #[.pointer (some ⟨wb,0,none⟩),jY o] w fun e w'=>e= .returned (.int .i64 (aI n o.no).2)∧∃A' G' c',WK w0 w' wb (aI n o.no).1 A' G' c' v L:=by
 have hR:aI n o.no=(n,1):=by unfold aI;rw [if_neg hc,if_pos hf]
 rw [hR];have hd:decide (o.no≤n.old)=false:=decide_eq_false hc;have oI:=hide (fun w1 (hw:WK w0 w1 wb n A G c v L)=>Hl w0 w1 wb n A G c v L o.no hok h0 h1 hw);rw [hf] at oI;clear hR h0 h1 hok hf;open ate in exact Ya8
theorem D6 (w0 w:World) (wb:Nat) (n:Nd) (A:bQ) (G:aX) (c:Nat→Nat) (v:Value) (L:List Mg) (o:iK) (hok:gF n=true) (h0:0≤o.no) (h1:o.no≤1000000000) (hc:¬o.no≤n.old) (hf:jP n.reqs o.no=true) (hs:(n.reqs.getD (bH n.reqs o.no) default).s=1) (h:WK w0 w wb n A G c v L):Calls Tryz.prog 48 #[.pointer (some ⟨wb,0,none⟩),jY o] w fun e w'=>e= .returned (.int .i64 (aI n o.no).2)∧∃A' G' c',WK w0 w' wb (aI n o.no).1 A' G' c' v L:=by
 have hR:aI n o.no=(n,1):=by unfold aI;rw [if_neg hc,if_neg (by rw [hf];simp)];rw [if_pos hs]
 exact aqv
theorem KV (w0 w:World) (wb:Nat) (n:Nd) (A:bQ) (G:aX) (c:Nat→Nat) (v:Value) (L:List Mg) (o:iK) (hok:gF n=true) (h0:0≤o.no) (h1:o.no≤1000000000) (hc:¬o.no≤n.old) (hf:jP n.reqs o.no=true) (hs:(n.reqs.getD (bH n.reqs o.no) default).s=2) (h:WK w0 w wb n A G c v L):Calls Tryz.prog 48 #[.pointer (some ⟨wb,0,none⟩),jY o] w fun e w'=>e= .returned (.int .i64 (aI n o.no).2)∧∃A' G' c',WK w0 w' wb (aI n o.no).1 A' G' c' v L:=by
 have hR:aI n o.no=(n,0):=by unfold aI;rw [if_neg hc,if_neg (by rw [hf];simp)];rw [if_neg (by omega),if_pos hs]
 exact aqv
theorem QY (w0 w:World) (wb:Nat) (n:Nd) (A:bQ) (G:aX) (c:Nat→Nat) (v:Value) (L:List Mg) (o:iK) (E:Nat→Addr) (hz:eF n 1048576) (hok:gF n=true) (h0:0≤o.no) (h1:o.no≤1000000000) (hc:¬o.no≤n.old) (hf:jP n.reqs o.no=true) (hs:(n.reqs.getD (bH n.reqs o.no) default).s=0) (h:WK w0 w wb n A G c v L) (he:iw w0 E):Calls Tryz.prog 48 #[.pointer (some ⟨wb,0,none⟩),jY o] w fun e w'=>e= .returned (.int .i64 (aI n o.no).2)∧∃A' G' c',WK w0 w' wb (aI n o.no).1 A' G' c' v L:=by
 have hR:aI n o.no=(if (cK n.pu (n.reqs.getD (bH n.reqs o.no) default).k 0 1 (-1) (n.reqs.getD (bH n.reqs o.no) default).n).2=true then
  (bZ (setPu n (cK n.pu (n.reqs.getD (bH n.reqs o.no) default).k 0 1 (-1) (n.reqs.getD (bH n.reqs o.no) default).n).1) (n.reqs.set (bH n.reqs o.no) (iY (n.reqs.getD (bH n.reqs o.no) default))),0) else(n,1)):=by
  unfold aI
  rw [if_neg hc,if_neg (by rw [hf];simp),if_neg (by omega),if_neg (by omega)]
 rw [hR];have hd:decide (o.no≤n.old)=false:=decide_eq_false hc;open alT in exact SN
theorem QZ (w0 w:World) (wb:Nat) (n:Nd) (A:bQ) (G:aX) (c:Nat→Nat) (v:Value) (L:List Mg) (o:iK) (E:Nat→Addr) (hz:eF n 1048576) (hok:gF n=true) (h0:0≤o.no) (h1:o.no≤1000000000) (h:WK w0 w wb n A G c v L) (he:iw w0 E):Calls Tryz.prog 48 #[.pointer (some ⟨wb,0,none⟩),jY o] w fun e w'=>e= .returned (.int .i64 (aI n o.no).2)∧∃A' G' c',WK w0 w' wb (aI n o.no).1 A' G' c' v L:=by
 by_cases hc:o.no≤n.old
 ·exact KW w0 w wb n A G c v L o hc h
 cases hf:jP n.reqs o.no with
 |false=>exact Nu w0 w wb n A G c v L o hok h0 h1 hc hf h
 |true=>
  have hil:=((lu n.reqs o.no).1 hf).1
  have hgd:n.reqs.getD (bH n.reqs o.no) default=n.reqs[bH n.reqs o.no]:=by rw [List.getD_eq_getElem?_getD,List.getElem?_eq_getElem hil];rfl
  obtain⟨_,_,_,_,b1,b2⟩:=jm ((fF hok).2.2.1 _ (List.getElem_mem hil))
  rw [←hgd] at b1 b2
  by_cases s1:(n.reqs.getD (bH n.reqs o.no) default).s=1
  ·exact D6 w0 w wb n A G c v L o hok h0 h1 hc hf s1 h
  by_cases s2:(n.reqs.getD (bH n.reqs o.no) default).s=2
  ·exact KV w0 w wb n A G c v L o hok h0 h1 hc hf s2 h
  ·exact QY w0 w wb n A G c v L o E hz hok h0 h1 hc hf (by omega) h he
end Go.Proofs.YtfmdndhliinhpaaGreatDoor
