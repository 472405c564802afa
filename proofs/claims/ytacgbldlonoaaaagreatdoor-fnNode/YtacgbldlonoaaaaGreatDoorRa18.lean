/- Parts. -/
import Derived.Test.YtacgbldlonoaaaaGreatDoorRa16
namespace Go.Proofs.YtacgbldlonoaaaaGreatDoor
set_option maxHeartbeats 4000000
set_option maxRecDepth 100000
open Go.RowKit Go.Maps
open Mth
abbrev zH (x:Int):Lit:= .int .i64 x
theorem VG {a b:Int} (h:a≠b):zH a≠zH b:=fun e=>h (by injection e)
theorem nO:Keyed Tryz.prog 3:=int_keyed Tryz.underlying3
theorem Ig (x:Int) (h0:0≤x) (h1:x≤1000000000):keyOf Tryz.prog 3 (.int .i64 x)=some (zH x):=keyOf_int_mk Tryz.underlying3 (by simp only[Lit.wf,Bool.and_eq_true,decide_eq_true_eq];constructor<;>(first|omega|(unfold IntKind.min;simp;omega)|(unfold IntKind.max;simp;omega)|(simp[IntKind.min,IntKind.max,IntKind.bits,IntKind.signed];omega)))
theorem TM (w:World):(zeroValue 262).run Tryz.prog w= .ok (.agg #[]) w:=by kernel_rfl
def eu (w:World) (mb n:Nat) (l:List Int):Prop:=∃D:DataW Unit,w.ownsMap Tryz.prog 3 unitElem mb n D∧∀x,Maps.has D (zH x)=decide (x∈l)
theorem eu.made (w:World):eu (w.alloc (.map #[] 0)) w.heap.size 0 []:=⟨_,World.ownsMap_made w _ _ _,fun x=>by simp[Maps.has]⟩
theorem eu.lt {w:World} {mb n:Nat} {l:List Int} (h:eu w mb n l):mb < w.heap.size:=h.choose_spec.1.lt
theorem eu.kept {w w':World} {mb n:Nat} {l:List Int} (h:eu w mb n l) (hb:w'.heap[mb]?=w.heap[mb]?):eu w' mb n l:=by
 exact ZH
theorem eu.mono {w:World} {mb n n':Nat} {l:List Int} (h:eu w mb n l) (hn:n≤n'):eu w mb n' l:=by
 obtain⟨D,h1,h2⟩:=h;exact⟨D,h1.mono hn,h2⟩
theorem eu.same {w:World} {mb n:Nat} {l l':List Int} (h:eu w mb n l) (he:∀x,x∈l↔x∈l'):eu w mb n l':=by
 obtain⟨D,h1,h2⟩:=h;exact⟨D,h1,fun x=>by rw [h2 x,decide_eq_decide];exact he x⟩
theorem eu.look {w:World} {mb n:Nat} {l:List Int} (h:eu w mb n l) (x:Int) (h0:0≤x) (h1:x≤1000000000):
 (Instr.lookup 259 (.map (some mb)) (.int .i64 x) true).run Tryz.prog w= .ok (.tuple #[.agg #[],.bool (decide (x∈l))]) w:=by
 obtain⟨D,hown,ha⟩:=h;obtain⟨v,ps,hrun,hv⟩:=hown.look_ok nO Tryz.underlying259 (TM w) unitElem_mk (Ig x h0 h1);rw [hrun,ha x,(unitElem_inv hv).1]
theorem eu.store {w:World} {mb n:Nat} {l:List Int} (h:eu w mb n l) (x:Int) (h0:0≤x) (h1:x≤1000000000) (hn:n < maxLen):
 ∃w',(Instr.mapUpdate 259 (.map (some mb)) (.int .i64 x) (.agg #[])).run Tryz.prog w= .ok () w'∧eu w' mb (n+1) (x::l)∧Keeps mb w w':=by
 obtain⟨D,hown,ha⟩:=h;obtain⟨w',hrun,g1,g2⟩:=hown.store nO Tryz.underlying259 hn (Ig x h0 h1) unitElem_mk;refine⟨w',hrun,⟨_,g1,fun y=>?_⟩,lF g2⟩;by_cases e:y=x
 ·subst e;rw [has_put_same hown.isMap (show WideAt.IsKeyLit (zH y) from trivial)];simp
 ·rw [has_put_other (VG e),ha y];simp[e]
theorem eu.keys {w:World} {mb n:Nat} {D:DataW Unit} {l:List Int} (hown:w.ownsMap Tryz.prog 3 unitElem mb n D) (ha:∀x,Maps.has D (zH x)=decide (x∈l)) (hl:l.Nodup):l.Perm (intKeys D):=by
 obtain⟨es,hD,hpw,_⟩:=hown.entries nO;obtain⟨es',hD',hko⟩:=hown.keysOf;obtain rfl:es=es':=by rw [hD] at hD';simpa using hD'
 subst hD;exact perm_intKeys hpw (fun p hp=>by obtain⟨v,hv⟩:=hko p hp;obtain⟨x,_,hx,_⟩:=Maps.keyOf_i64 Tryz.underlying3 hv;exact⟨x,hx⟩) hl (fun x=>by rw [ha x];simp)
theorem Dp {w:World} {mb n:Nat} {D:DataW Unit} (hown:w.ownsMap Tryz.prog 3 unitElem mb n D):Maps.size D=(intKeys D).length:=by
 obtain⟨es,hD,_⟩:=hown.entries nO;subst hD;simp[Maps.size,intKeys]
theorem eu.len {w:World} {mb n:Nat} {l:List Int} (h:eu w mb n l) (hl:l.Nodup) (ty:TypeId):(Builtin.len_ #[259] ty #[.map (some mb)]).run Tryz.prog w= .ok (.int .i64 l.length) w:=by
 obtain⟨D,hown,ha⟩:=h;rw [hown.len Tryz.underlying259 ty,Dp hown,(eu.keys hown ha hl).length_eq]
theorem abI (B sb mb:Nat) (low x:Int) (w:World) (h1:w.heap[B]?=some (.cells #[.pointer (some ⟨sb,0,none⟩)] 227 (0,0))) (h2:w.heap[sb]?=some (.cells #[.int .i64 low,.map (some mb)] 261 (0,0))):
 Calls Tryz.prog 231 #[.int .i64 x,.agg #[],.pointer (some ⟨B,0,none⟩)] w fun e w'=>e= .returned (.bool (decide (x < low)))∧Below w.heap.size w w':=by
 have hB:=aA h1;have hS:=aA h2;have c0:w.cell? ⟨B,0,none⟩=some (.pointer (some ⟨sb,0,none⟩)):=cell_of_row w B 0 _ _ (0,0) h1;have c1:w.cell? ⟨sb,0,none⟩=some (.int .i64 low):=cell_of_row w sb 0 _ _ (0,0) h2;clear h1 h2;go_enter Tryz.func231,Tryz.ntmps231
 exact Vl
def vH (low:Int):Lit→DataW Unit→Bool
 | .int _ x,_=>decide (x < low)
 |_,_=>false
theorem Nw {w:World} {mb n:Nat} {l:List Int} {es:List (Lit×DataW Unit)} (low:Int) (hown:w.ownsMap Tryz.prog 3 unitElem mb n (.map es)) (ha:∀x,Maps.has (.map es) (zH x)=decide (x∈l)) (x:Int):
 Maps.has (Lib.deleteFuncD (vH low) (.map es)) (zH x)=decide (x∈l.filter (fun x=>decide (low≤x))):=by
 obtain⟨es',hD',hko⟩:=hown.keysOf;obtain rfl:es=es':=by simpa using hD'
 have hx:=ha x;rw [Bool.eq_iff_iff,decide_eq_true_iff,has_eq,List.any_eq_true] at hx;show Maps.has (.map (es.filter fun p=> !vH low p.1 p.2)) (zH x)=_
 rw [Bool.eq_iff_iff,decide_eq_true_iff,has_eq,List.any_eq_true,List.mem_filter,←hx,decide_eq_true_iff];constructor
 ·rintro⟨p,hp,hs⟩;obtain⟨hp1,hp2⟩:=List.mem_filter.1 hp;refine⟨⟨p,hp1,hs⟩,?_⟩;obtain⟨v,hv⟩:=hko p hp1;obtain⟨y,_,hy,_⟩:=Maps.keyOf_i64 Tryz.underlying3 hv;rw [hy] at hs hp2;have e:y=x:=by simpa [Lit.sameKey] using hs
  subst e;simpa [vH] using hp2
 ·rintro⟨⟨p,hp1,hs⟩,hle⟩;obtain⟨v,hv⟩:=hko p hp1;obtain⟨y,_,hy,_⟩:=Maps.keyOf_i64 Tryz.underlying3 hv;have hs':=hs;rw [hy] at hs';have e:y=x:=by simpa [Lit.sameKey] using hs'
  subst e;exact⟨p,List.mem_filter.2 ⟨hp1,by rw [hy];simpa [vH] using hle⟩,hs⟩
theorem zP {w w':World} {b:Nat} (g:w.grownBy w' (some b)):_root_.Go.Proofs.YtacgbldlonoaaaaGreatDoor.Keeps b w w':=⟨g.os,g.tape,g.output,g.size,fun k hk hne=>g.block k hk (fun e=>hne (Option.some.inj e))⟩
theorem fP {w w':World} (h:Below w.heap.size w w') (row:Option Nat):w.grownBy w' row:=⟨h.os,h.tape,h.output,h.size,fun k hk _=>h.block k hk⟩
theorem abg (B sb mb n:Nat) (low:Int) (l:List Int) (w:World) (h1:w.heap[B]?=some (.cells #[.pointer (some ⟨sb,0,none⟩)] 227 (0,0))) (h2:w.heap[sb]?=some (.cells #[.int .i64 low,.map (some mb)] 261 (0,0))) (hs:eu w mb n l):
 Calls Tryz.prog 230 #[.map (some mb),.func (.func 231) #[] #[.pointer (some ⟨B,0,none⟩)]] w fun e w'=>e= .returned (.tuple #[])∧eu w' mb n (l.filter (fun x=>decide (low≤x)))∧Keeps mb w w':=by
 obtain⟨D,hown,ha⟩:=hs;obtain⟨es0,rfl,hap,hkeys⟩:=hown.entries nO;have hmap:∃es clock,w.heap[mb]?=some (.map es clock):=by obtain⟨es,clock,hb,_⟩:=hown;exact⟨es,clock,hb⟩
 obtain⟨es1,clock1,hmb⟩:=hmap;have hBm:B≠mb:=fun e=>by rw [e,hmb] at h1;cases h1
 have hSm:sb≠mb:=fun e=>by rw [e,hmb] at h2;cases h2
 have HA:=hide (Nw (n:=n) low hown ha);have HD:=hide (fun(W:World) (x:Int) (hg:w.grownBy W (some mb))=>abI B sb mb low x W ((hg.block B (aA h1) (by simpa using hBm)).trans h1) ((hg.block sb (aA h2) (by simpa using hSm)).trans h2));clear h1 h2 hmb hBm hSm ha;go_enter Tryz.func230,Tryz.ntmps230
 go_wp2_with (first
  |(at_range;refine wpList_range_own _ rfl _ 259 rfl 3 262 nO Tryz.underlying259 unitElem mb n _ rfl hown ?_;intro w0 hrg0 hg0 hs0)
  |go_in)
 go_frame
 go_loopw [8] (fun _ wr=>∃(left:Lit→Bool) (cnt:Nat),wr.ranges Tryz.prog 3 unitElem mb w.heap.size n (Fk (vH low) es0 left) left cnt∧w.grownBy wr (some mb))
  (fun _ wr=>wr.rangeLeft mb w.heap.size)
 case atStart=>exact⟨_,_,by rw [Fk_start hkeys];exact hrg0,hg0.but _⟩
 case round=>
  obtain⟨left,cnt,hrg,hgw⟩:=hrel
  go_wp2_with (first
   |(at_next;refine wpList_next_ranges _ rfl _ rfl 3 nO unitElem (Value.int .i64) (fun _:Unit=>Value.agg #[]) (fun key kl hk=>by obtain⟨x,hx,_⟩:=Maps.keyOf_i64 Tryz.underlying3 hk;exact⟨x,hx⟩) (fun v y hv=>⟨(),(unitElem_inv hv).1⟩) mb w.heap.size n _ _ _ rfl hrg ?_ ?_)
   |go_in)
  ·
   intro _ hl0
   go_wp2_with fail
   go_end0
   refine⟨rfl,⟨_,?_,HA⟩,zP hgw⟩
   rw [←Fk_end hl0]
   exact hrg.owns
  ·
   intro x kl yd yp w1 cnt1 hkey hlx hv hat hrg1 hlt hg1 hs1 hen
   obtain⟨x',ex,rfl,_⟩:=Maps.keyOf_i64 Tryz.underlying3 hkey
   cases ex
   have hgw1:=hgw.andThen hg1 (fun j hj=>by cases hj;exact Or.inl (Nat.le_refl _))
   have hc:=hide (HD (w1.alloc (.cells #[] 262)) x (hgw1.andThen (World.grownBy_alloc w1 _ none) (fun j hj=>by cases hj)))
   have anY:=hrg1.alloc (.cells #[] 262)
   have hgA:=hgw1.andThen (World.grownBy_alloc w1 (.cells #[] 262) none) (fun j hj=>by cases hj)
   by_cases hx:x < low
   ·have hp:vH low (zH x) yd=true:=by simpa [vH] using hx
    have hq:decide (x < low)=true:=by simpa using hx
    go_wp2_with (first
     |(go_at_call 231;refine hc.mono ?_;rintro e w2 ⟨rfl,hb2⟩;have hrg2:=anY.kept (fP hb2 none) (by simp) (by simp))
     |(at_delete;refine wpList_delete_ranges _ rfl _ _ 259 3 rfl 262 nO Tryz.underlying259 unitElem mb w.heap.size n _ _ _ rfl hrg2 _ _ rfl hkey ?_;intro w3 cnt3 hrg3 hle hturn;go_frame)
     |go_in)
    rw [strike_twice] at hrg3;go_roundw
    case rel=>exact⟨_,cnt3,by rw [←Fk_struck hap (nO.key hkey) hlx hp hat];exact hrg3,(hgA.andThen (fP hb2 none) (fun j hj=>by cases hj)).andThen hturn.grown (fun j hj=>by cases hj;exact Or.inr rfl)⟩
    case measure=>rw [hrg3.left_eq,hrg.left_eq];omega
   ·have hp:vH low (zH x) yd=false:=by simpa [vH] using hx
    have hq:decide (x < low)=false:=by simpa using hx
    go_wp2_with (first
     |(go_at_call 231;refine hc.mono ?_;rintro e w2 ⟨rfl,hb2⟩;have hrg2:=anY.kept (fP hb2 none) (by simp) (by simp))
     |go_in)
    go_roundw
    case rel=>exact⟨_,cnt1,by rw [←Fk_stays hap (nO.key hkey) hlx hp hat];exact hrg2,hgA.andThen (fP hb2 none) (fun j hj=>by cases hj)⟩
    case measure=>rw [hrg2.left_eq,hrg.left_eq];exact hlt
end Go.Proofs.YtacgbldlonoaaaaGreatDoor
namespace Go.Proofs
open Go.Shelf
def Tryz.keysL_ren:Go.Shelf.Ren:=⟨fun|7=>234|10=>253|n=>n,fun|23=>259|26=>3|3=>262|28=>268|0=>0|27=>267|33=>101|4=>4|n=>n,fun|n=>n⟩
theorem Tryz.keysL:Go.Proofs.SlLaysZI.n7 Tryz.prog Tryz.keysL_ren:={
 mixed:=by kernel_rfl
 f7:=⟨Tryz.f234.name,by decide,Tryz.func234.trans (congrArg some (by kernel_rfl))⟩
 f10:=⟨Tryz.f253.name,by decide,Tryz.func253.trans (congrArg some (by kernel_rfl))⟩
 t0:=Tryz.underlying0
 a0:=Tryz.isAgg0
 z0:=Tryz.sizeOf0
 v0:=Tryz.zeroValue0
 t4:=Tryz.underlying4
 a4:=Tryz.isAgg4
 z4:=Tryz.sizeOf4
 v4:=Tryz.zeroValue4
 t23:=Tryz.underlying259
 a23:=Tryz.isAgg259
 z23:=Tryz.sizeOf259
 v23:=Tryz.zeroValue259
 t26:=Tryz.underlying3
 a26:=Tryz.isAgg3
 z26:=Tryz.sizeOf3
 v26:=Tryz.zeroValue3
 t27:=Tryz.underlying267
 a27:=Tryz.isAgg267
 z27:=Tryz.sizeOf267
 v27:=Tryz.zeroValue267
 t28:=Tryz.underlying268
 a28:=Tryz.isAgg268
 z28:=Tryz.sizeOf268
 v28:=Tryz.zeroValue268
 t33:=Tryz.underlying101
 a33:=Tryz.isAgg101
 z33:=Tryz.sizeOf101
 v33:=Tryz.zeroValue101}
def Tryz.sortedL_ren:Go.Shelf.Ren:=⟨fun|6=>233|8=>252|9=>123|11=>266|13=>175|12=>174|23=>210|24=>211|14=>201|15=>202|16=>203|17=>204|18=>205|19=>206|20=>207|21=>208|22=>209|25=>235|26=>236|27=>237|28=>238|29=>239|30=>240|31=>254|n=>n,fun|26=>3|28=>268|24=>24|0=>0|3=>3|37=>203|48=>168|50=>243|4=>4|40=>235|39=>234|45=>195|5=>5|9=>9|51=>270|55=>274|57=>290|58=>209|33=>101|n=>n,fun|n=>n⟩
theorem Tryz.sortedL:Go.Proofs.SlLaysZI.n6 Tryz.prog Tryz.sortedL_ren:={
 mixed:=by kernel_rfl
 f6:=⟨Tryz.f233.name,by decide,Tryz.func233.trans (congrArg some (by kernel_rfl))⟩
 f8:=⟨Tryz.f252.name,by decide,Tryz.func252.trans (congrArg some (by kernel_rfl))⟩
 f11:=⟨Tryz.f266.name,by decide,Tryz.func266.trans (congrArg some (by kernel_rfl))⟩
 t0:=Tryz.underlying0
 a0:=Tryz.isAgg0
 z0:=Tryz.sizeOf0
 v0:=Tryz.zeroValue0
 t24:=Tryz.underlying24
 a24:=Tryz.isAgg24
 z24:=Tryz.sizeOf24
 v24:=Tryz.zeroValue24
 t26:=Tryz.underlying3
 a26:=Tryz.isAgg3
 z26:=Tryz.sizeOf3
 v26:=Tryz.zeroValue3
 t28:=Tryz.underlying268
 a28:=Tryz.isAgg268
 z28:=Tryz.sizeOf268
 v28:=Tryz.zeroValue268
 i26:=by kernel_rfl}
end Go.Proofs
namespace Go.Proofs.YtacgbldlonoaaaaGreatDoor
set_option maxHeartbeats 2000000
set_option maxRecDepth 100000
open Go.RowKit Go.Maps
open Mth
abbrev jk (w:World) (sb mb:Nat) (low:Int):Prop:=w.heap[sb]?=some (.cells #[.int .i64 low,.map (some mb)] 261 (0,0))
theorem aC.of_keeps {g:Nat} {w w':World} (h:Keeps g w w'):aC [g] w w':=⟨h.os,h.tape,h.output,h.size,fun k hk hg=>h.block k hk (by simpa using hg)⟩
theorem eu.ne {w:World} {sb mb n:Nat} {low:Int} {l:List Int} (h:eu w mb n l) (hs:jk w sb mb low):sb≠mb:=fun e=>by
 obtain⟨D,⟨es,clock,hb,_⟩,_⟩:=h;unfold jk at hs;rw [e,hb] at hs;cases hs
theorem eu.far {w:World} {g mb n:Nat} {l:List Int} {cs:Array Value} {t:TypeId} {q:Nat×Nat} (h:eu w mb n l) (hs:w.heap[g]?=some (.cells cs t q)):g≠mb:=fun e=>by
 obtain⟨D,⟨es,clock,hb,_⟩,_⟩:=h;rw [e,hb] at hs;cases hs
theorem abm (sb mb n:Nat) (low x:Int) (l:List Int) (w:World) (h0:0≤x) (h1:x≤1000000000) (hb:jk w sb mb low) (hs:eu w mb n l):
 Calls Tryz.prog 197 #[.pointer (some ⟨sb,0,none⟩),.int .i64 x] w fun e w'=>e= .returned (.bool (decide (x < low)||decide (x∈l)))∧Below w.heap.size w w':=by
 have hsl:=aA hb;obtain⟨⟨m0,m1⟩,_⟩:=jT hb;have hrun:=hs.look x h0 h1;clear hb hs;cases hm:decide (x∈l)
 ·rw [hm] at hrun;go_enter Tryz.func197,Tryz.ntmps197
  exact Vl
 ·rw [hm] at hrun;go_enter Tryz.func197,Tryz.ntmps197
  exact Vl
theorem VN (sb mb n:Nat) (an6 low L:Int) (l:List Int) (w:World) (hL:max an6 low=L) (hb:jk w sb mb an6) (hs:eu w mb n l):
 Calls Tryz.prog 196 #[.pointer (some ⟨sb,0,none⟩),.int .i64 low] w fun e w'=>e= .returned (.tuple #[])∧jk w' sb mb L∧eu w' mb n (l.filter (fun x=>decide (L≤x)))∧aC [sb,mb] w w':=by
 have hsl:=aA hb;have hml:=hs.lt;have hne:=hs.ne hb;have HB:=hide hb;have HS:=hide hs;obtain⟨⟨m0,m1⟩,f0,f1⟩:=jT hb;have HL:=hide hL;clear hb hs hL;go_enter Tryz.func196,Tryz.ntmps196
 go_upto_region 2 with fail;go_region
 rw [ah HL];go_upto_region 2 with fail;refine wp_at (fun W hW=>?_);have hsz:(w.setCell ⟨sb,0,none⟩ (.int .i64 L)).heap.size=w.heap.size:=by simp[World.setCell]
 have e1:W.heap[w.heap.size]?=some (.cells #[.pointer (some ⟨sb,0,none⟩)] 227 (0,0)):=by
  rw [hW,←hsz];exact heap_alloc_new _ _
 have e2:jk W sb mb L:=by
  have h1:(w.setCell ⟨sb,0,none⟩ (.int .i64 L)).heap[sb]?=some (.cells #[.int .i64 L,.map (some mb)] 261 (0,0)):=bg HB 0 (.int .i64 L);rw [hW];exact(Below.heap_alloc _ _ _ (by rw [hsz];exact hsl)).trans h1
 have e3:eu W mb n l:=HS.kept (by
  rw [hW]
  exact(Below.heap_alloc _ _ _ (by rw [hsz];exact hml)).trans (Below.heap_setCell _ _ _ _ hne.symm))
 have e4:aC [sb,mb] w W:=by
  rw [hW];refine⟨rfl,rfl,rfl,by simp[World.setCell],fun k hk hkn=>?_⟩;have h1:k≠sb:=fun e=>hkn (by simp[e])
  exact(Below.heap_alloc _ _ _ (by rw [hsz];exact hk)).trans (Below.heap_setCell _ _ _ _ h1)
 have m0:W.cell? ⟨w.heap.size,0,none⟩=some (.pointer (some ⟨sb,0,none⟩)):=cell_of_row W _ 0 _ _ (0,0) e1;obtain⟨⟨m1,m2⟩,_⟩:=jT e2;have hwl:=aA e1;have hsl2:=aA e2;have HD:=hide (abg w.heap.size sb mb n L l W e1 e2 e3);have E2:=hide e2;have E4:=hide e4;clear hW e1 e2 e3 e4 HB HS;go_wp2_with fail;refine HD.mono ?_;rintro e w' ⟨rfl,g1,g2⟩;have G1:=hide g1;have G2:=hide g2;clear g1 g2 HD m0 m1 m2;go_wp2_with fail;refine bodyPost_end (v:= .tuple #[]) (by simp[results,Tryz.results196,go_sem]) rfl ⟨rfl,?_,G1,E4.trans ((aC.of_keeps G2).mono (by simp))⟩;unfold jk;rw [(ah G2).block sb hsl2 hne];exact E2
theorem setOf (f low:Int) (a:Option Addr) (cap:Nat) (ids:List Int) (w:World) (hl:ids.length≤40) (hb:∀x∈ids,0≤x∧x≤1000000000) (ha:dK w a ids):
 Calls Tryz.prog 195 #[.agg #[.int .i64 f,.int .i64 low,.slice a ids.length cap]] w fun e w'=>∃sb mb,e= .returned (.pointer (some ⟨sb,0,none⟩))∧w.heap.size≤sb∧w.heap.size≤mb∧jk w' sb mb low∧eu w' mb ids.length ids∧Below w.heap.size w w':=by
 have hmm:= @run_makeMap Tryz.prog;have HA:=hide ha;have HBD:=hide hb;clear ha hb;go_enter Tryz.func195,Tryz.ntmps195
 go_wp2_with fail;go_loopw [14] (fun i wr=>∃k:Nat,k≤ids.length∧i= .int .i64 k∧jk wr (w.heap.size+1+1) (w.heap.size+1) low∧eu wr (w.heap.size+1) k (ids.take k)∧Below w.heap.size w wr) (fun i _=>ids.length - (intOf i).toNat)
 case atStart=>
  have hz:∀(u:World) (o:Obj),(u.alloc o).heap.size=u.heap.size+1:=fun u o=>by simp
  have hM:=eu.made (w.alloc (.cells #[.int .i64 f,.int .i64 low,.slice a ids.length cap] 90));have hS:=heap_alloc_new ((w.alloc (.cells #[.int .i64 f,.int .i64 low,.slice a ids.length cap] 90)).alloc (.map #[] 0)) (.cells #[.int .i64 low,.map (some (w.heap.size+1))] 261);rw [hz] at hM;rw [hz,hz] at hS;refine⟨0,Nat.zero_le _,rfl,hS,?_,?_⟩
  ·refine hM.kept ?_;exact Below.heap_alloc _ _ _ (by rw [hz,hz];omega)
  ·exact((au w _).alloc (by rw [hz];omega) _).alloc (by rw [hz,hz];omega) _
 case round=>
  obtain⟨k,hk,rfl,hS,hI,hbw⟩:=hrel;have HS:=hide hS;have HI:=hide hI;have iD:=hide hbw;obtain⟨⟨m0,m1⟩,_⟩:=jT hS;have hsl:=aA hS;clear hS hI hbw hmm;by_cases hlt:k < ids.length
  ·obtain⟨g,off,rfl,hgw,q0⟩:=dK.one (GR.At.below HA iD) k hlt;have HB:=hide (HBD ids[k] (List.getElem_mem hlt));have HT:=hide (show∀x,x∈ids[k]::ids.take k↔x∈ids.take (k+1) from fun x=>by rw [List.take_succ_eq_append_getElem hlt,List.mem_cons,List.mem_append,List.mem_singleton,or_comm]);generalize ids[k]=ik at *;obtain⟨w2,hrun,hI2,hK2⟩:=HI.store ik HB.1 HB.2 (by unfold maxLen;omega);have HI2:=hide hI2;have MK:=hide hK2;clear hI2 hK2;go_wp2_with fail;go_roundw
   case rel=>
    refine⟨k+1,by omega,by go_num,?_,HI2.same HT,?_⟩
    ·unfold jk;rw [(ah MK).block _ hsl (by omega)];exact HS
    ·exact iD.trans ⟨MK.os,MK.tape,MK.output,MK.size,fun j hj=>MK.block j (by have:=iD.size;omega) (by omega)⟩
   case measure=>simp[intOf];omega
  ·have hke:k=ids.length:=by omega
   subst hke;have hnlt:decide ((ids.length:Int) < (ids.length:Int))=false:=by simp
   go_wp2_with fail;go_ret;refine⟨_,_,rfl,by omega,by omega,HS,?_,iD⟩;have h:=ah HI;rwa [List.take_length] at h
end Go.Proofs.YtacgbldlonoaaaaGreatDoor
namespace Go.Proofs.YtacgbldlonoaaaaGreatDoor
set_option maxHeartbeats 2000000
set_option maxRecDepth 100000
open Go.RowKit Go.Maps Go.Sort
open Mth
theorem abP (m:Nat):AnyZI.SortsIn Tryz.prog Tryz.sortedL_ren Fence.wide m:=
 ⟨fun blk off cap ss W hH hblk hsz=>callsIn_wide.2 (AnyM.slices_Sort_int Tryz.sortL blk off cap ss W hH hblk hsz),
  fun p cap W=>callsIn_wide.2 (AnyM.slices_Sort_int_none Tryz.sortL p cap W)⟩
theorem VK (mb:Option Nat) (W:World):Calls Tryz.prog 234 #[.map mb] W fun e w'=>e= .returned (.func (.func 253) #[] #[.pointer (some ⟨W.heap.size,0,none⟩)])∧w'=W.alloc (.cells #[.map mb] 259):=
 callsIn_wide.1 (AnyZI.keys_in Tryz.keysL Fence.wide 5 trivial rfl mb W)
theorem TA {l ss:List Int} (hp:l.Pairwise (· < ·)) (h:ss.Perm l):ss.mergeSort (fun x y=>decide (x≤y))=l:=by
 have h1:ss.mergeSort leI=l.mergeSort leI:=mergeSort_of_perm_i h;refine h1.trans (List.mergeSort_of_pairwise ?_);exact hp.imp (fun {a b} h=>by simp only[leI,decide_eq_true_eq];omega)
theorem OM (B mb n:Nat) (l:List Int) (W:World) (hl:l.length≤1000) (hp:l.Pairwise (· < ·)) (hB:W.heap[B]?=some (.cells #[.map (some mb)] 259 (0,0))) (hs:eu W mb n l):
 Calls Tryz.prog 233 #[.func (.func 253) #[] #[.pointer (some ⟨B,0,none⟩)]] W fun e w'=>∃v,e= .returned v∧w'.ownsRow W.heap.size 3 1 v l.length (GR.flat aR l)∧Below W.heap.size W w':=by
 obtain⟨D,hown,ha⟩:=hs;have hk:=eu.keys hown ha (hp.imp (fun h=>by omega));have hsz:Maps.size D=l.length:=by rw [Dp hown,hk.length_eq]
 have hcell:W.cell? ⟨B,0,none⟩=some (.map (some mb)):=cell_of_row W B 0 _ _ (0,0) hB
 have hseq:SeqGives Fence.wide 2 Tryz.prog 253 #[.pointer (some ⟨B,0,none⟩)] encZ (fun ss=>ss.Perm (intKeys D)) (Maps.size D) W:=
  AnyZI.keys_gives (ρ:=Tryz.keysL_ren) {Tryz.keysL with} Fence.wide _ trivial rfl (by omega) B mb n D _ (aA hB) hcell hown
 have cS:=AnyZI.sorted_in Tryz.sortedL Fence.wide 5 trivial trivial trivial trivial rfl (by omega) (abP _) (enters_of Tryz.func123 (by kernel_rfl) rfl) 253 #[.pointer (some ⟨B,0,none⟩)] trivial (enters_of Tryz.func253 (by kernel_rfl) rfl) _ _ (by rw [hsz];unfold maxLen;omega) (by rw [hsz];omega) _ hseq;change CallsIn _ _ Tryz.prog 233 _ _ _ at cS
 refine(callsIn_wide.1 cS).mono ?_;rintro e w' ⟨v,ss,rfl,hS,hrow,_,hb⟩;have hperm:ss.Perm l:=hS.trans hk.symm;rw [TA hp hperm,hperm.length_eq,←zx] at hrow;exact⟨v,rfl,hrow,hb⟩
theorem rQ (sb mb n:Nat) (f low:Int) (l:List Int) (w:World) (hl:l.length≤1000) (hp:l.Pairwise (· < ·)) (hb:jk w sb mb low) (hs:eu w mb n l):
 Calls Tryz.prog 199 #[.pointer (some ⟨sb,0,none⟩),.int .i64 f] w fun e w'=>∃v,e= .returned (.agg #[.int .i64 f,.int .i64 low,v])∧w'.ownsRow w.heap.size 3 1 v l.length (GR.flat aR l)∧Below w.heap.size w w':=by
 have hsl:=aA hb;have HB:=hide hb;have HS:=hide hs;have O6:=hide VK;have CQ:=hide (fun B W (h1:W.heap[B]?=_) (h2:eu W mb n l)=>OM B mb n l W hl hp h1 h2);have hb1:=aj hb (au w (.cells #[.int .i64 0,.int .i64 0,.slice none 0 0] 90));obtain⟨⟨m0,m1⟩,_⟩:=jT hb1;clear hb hs hb1;go_enter Tryz.func199,Tryz.ntmps199
 go_upto_region 1 with fail;have y0:=cell_regrown m0;have y1:=cell_regrown m1;clear m0 m1;refine bn 12 (by kernel_rfl) ?_;show dS _ _ _ _ _ 13 (Array.replicate 13 false) _ _
 refine tk [0,1,2,3,4,5,6,7,8] ?_;iterate 9 (refine nQ (fun K hK=>?_);go_simp;refine hK _ ?_;clear hK K)
 refine jI ?_;clear y0 y1;refine cZ 9 rfl (by kernel_rfl) (by rfl) (fun x hx=>?_);go_simp;have HX:=hide hx;clear hx;refine(O6 (some mb) x).mono ?_;rintro e y ⟨rfl,rfl⟩;refine⟨au x _,?_⟩;refine cZ 10 rfl (by kernel_rfl) (by rfl) (fun x2 hx2=>?_);go_simp;have Va:=hide hx2;have h1:x2.heap[x.heap.size]?=some (.cells #[.map (some mb)] 259 (0,0)):=aj (heap_alloc_new x _) hx2;have HG:=hide (Ge.trans (Ge.trans HX (au x _)) hx2);have h2:eu x2 mb n l:=HS.kept ((HG.block mb (by have:=HS.lt;simp;omega)).trans (Below.heap_alloc _ _ _ HS.lt));have HCS:=hide (CQ x.heap.size x2 h1 h2);clear hx2 h1 h2 O6 CQ Va;refine HCS.mono ?_;rintro e z ⟨v,rfl,hrow,hbz⟩;refine⟨hbz,?_⟩;obtain⟨av,cv,rfl,_⟩:=GR.own_at (enc:=aR) (sz:=1) aN hrow;have HRW:=hide hrow;have HZ:=hide (Ge.trans HG hbz);clear hrow hbz HCS;refine tk [11] ?_;(refine nQ (fun K hK=>?_);go_simp;refine hK _ ?_;clear hK K)
 refine jI ?_;refine aV (by kernel_rfl) (fun x3 hx3=>?_);have Wv:=hide (Ge.trans HZ hx3);have HR3:=hide (GR.own_below HRW hx3);have e3:x3.heap[w.heap.size]?=some (.cells #[.int .i64 0,.int .i64 0,.slice none 0 0] 90 (0,0)):=aj (heap_alloc_new w _) Wv;have f0:=ay e3 0;have f1:=ay e3 1;have f2:=ay e3 2;have hw3:=aA e3;obtain⟨d0,d1,d2⟩:=three e3;have E3:=hide e3;clear e3 hx3 HX HZ HRW;refine aG 12 rfl (by kernel_rfl) (by rfl) ?_;go_simp;refine wpAny_done (by kernel_rfl) ?_;clear d0 d1 d2 f0 f1 f2;go_wp2_with fail;refine aO (fun W' hW'=>?_)
 have e4:W'.heap[w.heap.size]?=some (.cells #[.int .i64 f,.int .i64 low,.slice av l.length cv] 90 (0,0)):=by
  rw [hW'];exact GR.setW_blk [.int .i64 f,.int .i64 low,.slice av l.length cv] (o:=0) (xs:=[.int .i64 0,.int .i64 0,.slice none 0 0]) E3
 have hsw:w.heap.size < x2.heap.size:=by have:=HG.size;simp at this;omega
 have hg:x3.grownBy W' (some w.heap.size):=by
  rw [hW'];exact⟨rfl,rfl,rfl,by simp[World.setCell],fun k _ hk=>GR.setW_other (g':=k) (fun e=>hk (by rw [e])) [.int .i64 f,.int .i64 low,.slice av l.length cv] (o:=0)⟩
 have hne:∀k,(Value.slice av l.length cv).ownBlock=some k→k≠w.heap.size:=fun k hk=>by have:=(HR3.lt k hk).1;omega
 have hrow:W'.ownsRow x2.heap.size 3 1 (.slice av l.length cv) l.length (GR.flat aR l):=by
  refine HR3.kept (row:=some w.heap.size) hg ?_;cases hv:(Value.slice av l.length cv).ownBlock with
  |none=>exact .inl rfl
  |some k=>exact .inr (fun e=>hne k hv (by injection e))
 have hbel:Below w.heap.size w W':=by
  rw [hW'];exact GR.setW_below (Nat.le_refl _) [.int .i64 f,.int .i64 low,.slice av l.length cv] (o:=0) ((au w _).trans (Wv.mono (by simp)))
 have HRW:=hide (ownsRow_base_a hrow (show w.heap.size≤x2.heap.size by omega));have iD:=hide hbel;obtain⟨d0,d1,d2⟩:=three e4;clear hW' e4 hg hrow hbel;exact bodyPost_ret (v:= .agg #[.int .i64 f,.int .i64 low,.slice av l.length cv]) (by simp[results,Tryz.results199,go_sem,d0,d1,d2]) rfl ⟨_,rfl,HRW,iD⟩
end Go.Proofs.YtacgbldlonoaaaaGreatDoor
namespace Go.Proofs.YtacgbldlonoaaaaGreatDoor
set_option maxHeartbeats 8000000
set_option maxRecDepth 100000
open Go.RowKit
open Mth
theorem V7 {w0 w x:World} {wb:Nat} {n:Nd} {A:bE} {G:aU} {c:Nat→Nat} {v:Value} {L:List Mg} (h:WK w0 w wb n A G c v L) {r:List Pu×Bool} {a:Option Addr} {cp g:Nat} (hb:Below w.heap.size w x) (hg:w.heap.size≤g) (hp:rU x a g r.1):
 Calls Tryz.prog 162 #[.pointer (some ⟨wb,0,none⟩),.slice a r.1.length cp,.bool r.2] x fun e w'=>e= .returned (.bool r.2)∧∃A' G' c',WK w0 w' wb (if r.2=true then setPu n r.1 else n) A' G' c' v L∧A'.r=A.r:=by
 obtain⟨l,b⟩:=r;cases b with
 |false=>
  refine(xE wb a l.length cp x).mono ?_
  rintro e w' ⟨rfl,rfl⟩
  exact⟨rfl,A,G,c,h.step hb,rfl⟩
 |true=>
  refine(uq wb n A v a l.length cp x (h.step hb).blk).mono ?_
  rintro e w' ⟨rfl,rfl⟩
  exact⟨rfl,_,_,_,h.setPu hb hp (fun y hy=>by rw [(gD hy).1];exact hg),rfl⟩
theorem WK.reqRow {w0 w:World} {wb:Nat} {n:Nd} {A:bE} {G:aU} {c:Nat→Nat} {v:Value} {L:List Mg} (h:WK w0 w wb n A G c v L) (i:Nat) (hi:i < n.reqs.length):∃g,A.r=some ⟨g,0,none⟩∧g≠wb∧g < w.heap.size∧(w.cell? ⟨g,i*4,none⟩=some (.int .i64 n.reqs[i].no)∧w.cell? ⟨g,i*4+1,none⟩=some (.string n.reqs[i].k)∧w.cell? ⟨g,i*4+2,none⟩=some (.int .i64 n.reqs[i].n)∧w.cell? ⟨g,i*4+3,none⟩=some (.int .i64 n.reqs[i].s))∧w.frozen? ⟨g,i*4+3,none⟩=false:=by
 obtain⟨a,cp,g,he,hW,hlt,hown⟩:=GR.W.of_own aY h.no.r;have hmem:g∈fp g n.reqs:=dz (by omega);obtain⟨ea,hg,hc,_,_,_,hf⟩:=GR.W.fourReq hW i hi;have hA:A.r=a:=by cases he;rfl
 refine⟨g,by rw [hA,ea],?_,hg,hc,hf⟩;intro hw;have h6:=h.no.cr g (hown g hmem);rw [hw,h.cw] at h6;cases h6
theorem WK.reqSet {w0 w:World} {wb:Nat} {n:Nd} {A:bE} {G:aU} {c:Nat→Nat} {v:Value} {L:List Mg} (h:WK w0 w wb n A G c v L) (i:Nat) (hi:i < n.reqs.length) (g:Nat) (hg:A.r=some ⟨g,0,none⟩):WK w0 (w.setCell ⟨g,i*4+3,none⟩ (.int .i64 2)) wb (dD n (n.reqs.set i (lV n.reqs[i]))) A G c v L:=by
 have ho:=h.no.r;have hcr:=h.no.cr;rw [hg] at ho hcr;have hc6:c g=6:=hcr g rfl;have hk:KC c 6 w (w.setCell ⟨g,i*4+3,none⟩ (.int .i64 2)):=KC.set hc6;have hno:=h.no;have hst:=(ho.stored (i*4+3) (.int .i64 2)).1;rw [GI 2 n.reqs i hi] at hst;have hlen:(n.reqs.set i (lV n.reqs[i])).length=n.reqs.length:=by simp
 refine⟨hk.below h.keep hno.lo (by omega) h.keep.size,?_,⟨hk.w hno.k hno.ck (by omega),hk.w hno.p hno.cp (by omega),hk.own hno.o hno.co (by omega),hk.seen hno.s hno.c4 hno.ci (by omega) (by omega),?_,hno.lo,hno.ck,hno.cp,hno.co,hno.c4,hno.ci,?_,hno.ni⟩,hk.own h.m h.cm (by omega),h.cm,h.cw⟩
 ·have:=hk.obj h.blk (by rw [h.cw];omega);rw [this];show some (Obj.cells #[_,_,_,_,_,_,_,_,.slice A.r n.reqs.length A.cr,_] _ _)=some (Obj.cells #[_,_,_,_,_,_,_,_,.slice A.r (n.reqs.set i (lV n.reqs[i])).length A.cr,_] _ _)
  rw [hlen];rfl
 ·show(w.setCell _ _).ownsRow _ _ _ (.slice A.r (n.reqs.set i (lV n.reqs[i])).length A.cr) (n.reqs.set i (lV n.reqs[i])).length (GR.flat aK (n.reqs.set i (lV n.reqs[i])))
  rw [hlen,hg];exact hst
 ·show∀x,(Value.slice A.r (n.reqs.set i (lV n.reqs[i])).length A.cr).ownBlock=some x→_
  rw [hlen];exact h.no.cr
theorem Jp (w0 w:World) (wb:Nat) (n:Nd) (A:bE) (G:aU) (c:Nat→Nat) (v:Value) (L:List Mg) (o:jE) (hc:o.no≤n.old) (h:WK w0 w wb n A G c v L):Calls Tryz.prog 109 #[.pointer (some ⟨wb,0,none⟩),jH o] w fun e w'=>e= .returned (.int .i64 (aX n o.no).2)∧∃A' G' c',WK w0 w' wb (aX n o.no).1 A' G' c' v L:=by
 have hR:aX n o.no=(n,2):=if_pos hc;rw [hR];have hd:decide (o.no≤n.old)=true:=decide_eq_true hc;clear hR;open aoX in exact Ya7
theorem KU (w0 w:World) (wb:Nat) (n:Nd) (A:bE) (G:aU) (c:Nat→Nat) (v:Value) (L:List Mg) (o:jE) (hok:fQ n=true) (h0:0≤o.no) (h1:o.no≤1000000000) (hc:¬o.no≤n.old) (hf:kK n.reqs o.no=false) (h:WK w0 w wb n A G c v L):Calls Tryz.prog 109 #[.pointer (some ⟨wb,0,none⟩),jH o] w fun e w'=>e= .returned (.int .i64 (aX n o.no).2)∧∃A' G' c',WK w0 w' wb (aX n o.no).1 A' G' c' v L:=by
 have hR:aX n o.no=(n,1):=by unfold aX;rw [if_neg hc,if_pos hf]
 rw [hR];have hd:decide (o.no≤n.old)=false:=decide_eq_false hc;have qB:=hide (fun w1 (hw:WK w0 w1 wb n A G c v L)=>Fq w0 w1 wb n A G c v L o.no hok h0 h1 hw);rw [hf] at qB;clear hR h0 h1 hok hf;open aoW in exact Ya7
theorem Co (w0 w:World) (wb:Nat) (n:Nd) (A:bE) (G:aU) (c:Nat→Nat) (v:Value) (L:List Mg) (o:jE) (hok:fQ n=true) (h0:0≤o.no) (h1:o.no≤1000000000) (hc:¬o.no≤n.old) (hf:kK n.reqs o.no=true) (hs:(n.reqs.getD (dx n.reqs o.no) default).s=1) (h:WK w0 w wb n A G c v L):Calls Tryz.prog 109 #[.pointer (some ⟨wb,0,none⟩),jH o] w fun e w'=>e= .returned (.int .i64 (aX n o.no).2)∧∃A' G' c',WK w0 w' wb (aX n o.no).1 A' G' c' v L:=by
 have hR:aX n o.no=(n,1):=by unfold aX;rw [if_neg hc,if_neg (by rw [hf];simp)];rw [if_pos hs]
 exact amL
theorem Jo (w0 w:World) (wb:Nat) (n:Nd) (A:bE) (G:aU) (c:Nat→Nat) (v:Value) (L:List Mg) (o:jE) (hok:fQ n=true) (h0:0≤o.no) (h1:o.no≤1000000000) (hc:¬o.no≤n.old) (hf:kK n.reqs o.no=true) (hs:(n.reqs.getD (dx n.reqs o.no) default).s=2) (h:WK w0 w wb n A G c v L):Calls Tryz.prog 109 #[.pointer (some ⟨wb,0,none⟩),jH o] w fun e w'=>e= .returned (.int .i64 (aX n o.no).2)∧∃A' G' c',WK w0 w' wb (aX n o.no).1 A' G' c' v L:=by
 have hR:aX n o.no=(n,0):=by unfold aX;rw [if_neg hc,if_neg (by rw [hf];simp)];rw [if_neg (by omega),if_pos hs]
 exact amL
theorem OX (w0 w:World) (wb:Nat) (n:Nd) (A:bE) (G:aU) (c:Nat→Nat) (v:Value) (L:List Mg) (o:jE) (E:Nat→Addr) (hz:eH n 1048576) (hok:fQ n=true) (h0:0≤o.no) (h1:o.no≤1000000000) (hc:¬o.no≤n.old) (hf:kK n.reqs o.no=true) (hs:(n.reqs.getD (dx n.reqs o.no) default).s=0) (h:WK w0 w wb n A G c v L) (he:gW w0 E):Calls Tryz.prog 109 #[.pointer (some ⟨wb,0,none⟩),jH o] w fun e w'=>e= .returned (.int .i64 (aX n o.no).2)∧∃A' G' c',WK w0 w' wb (aX n o.no).1 A' G' c' v L:=by
 have hR:aX n o.no=(if (bV n.pu (n.reqs.getD (dx n.reqs o.no) default).k 0 1 (-1) (n.reqs.getD (dx n.reqs o.no) default).n).2=true then
  (dD (setPu n (bV n.pu (n.reqs.getD (dx n.reqs o.no) default).k 0 1 (-1) (n.reqs.getD (dx n.reqs o.no) default).n).1) (n.reqs.set (dx n.reqs o.no) (lV (n.reqs.getD (dx n.reqs o.no) default))),0) else(n,1)):=by
  unfold aX
  rw [if_neg hc,if_neg (by rw [hf];simp),if_neg (by omega),if_neg (by omega)]
 rw [hR];have hd:decide (o.no≤n.old)=false:=decide_eq_false hc;open aiy in exact Qr
theorem OY (w0 w:World) (wb:Nat) (n:Nd) (A:bE) (G:aU) (c:Nat→Nat) (v:Value) (L:List Mg) (o:jE) (E:Nat→Addr) (hz:eH n 1048576) (hok:fQ n=true) (h0:0≤o.no) (h1:o.no≤1000000000) (h:WK w0 w wb n A G c v L) (he:gW w0 E):Calls Tryz.prog 109 #[.pointer (some ⟨wb,0,none⟩),jH o] w fun e w'=>e= .returned (.int .i64 (aX n o.no).2)∧∃A' G' c',WK w0 w' wb (aX n o.no).1 A' G' c' v L:=by
 by_cases hc:o.no≤n.old
 ·exact Jp w0 w wb n A G c v L o hc h
 cases hf:kK n.reqs o.no with
 |false=>exact KU w0 w wb n A G c v L o hok h0 h1 hc hf h
 |true=>
  have hil:=((lu n.reqs o.no).1 hf).1
  have hgd:n.reqs.getD (dx n.reqs o.no) default=n.reqs[dx n.reqs o.no]:=by rw [List.getD_eq_getElem?_getD,List.getElem?_eq_getElem hil];rfl
  obtain⟨_,_,_,_,b1,b2⟩:=iV ((gQ hok).2.2.1 _ (List.getElem_mem hil))
  rw [←hgd] at b1 b2
  by_cases s1:(n.reqs.getD (dx n.reqs o.no) default).s=1
  ·exact Co w0 w wb n A G c v L o hok h0 h1 hc hf s1 h
  by_cases s2:(n.reqs.getD (dx n.reqs o.no) default).s=2
  ·exact Jo w0 w wb n A G c v L o hok h0 h1 hc hf s2 h
  ·exact OX w0 w wb n A G c v L o E hz hok h0 h1 hc hf (by omega) h he
end Go.Proofs.YtacgbldlonoaaaaGreatDoor
