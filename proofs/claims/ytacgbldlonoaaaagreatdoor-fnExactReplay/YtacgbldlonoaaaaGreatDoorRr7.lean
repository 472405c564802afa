/- Parts. -/
import Derived.Test.YtacgbldlonoaaaaGreatDoorRr6
namespace Go.Proofs.YtacgbldlonoaaaaGreatDoor
set_option maxHeartbeats 2000000
namespace Mth
structure Mg where
 K:Int
 F:Int
 T:Int
 I:Int
 L:Int
 k:ByteArray
 N:Int
abbrev bJ (K F T I L:Int) (k:ByteArray) (N:Int):Array Value:=#[.int .i64 K,.int .i64 F,.int .i64 T,.int .i64 I,.int .i64 L,.string k,.int .i64 N]
abbrev nS (m:Mg):Value:= .agg #[.int .i64 m.K,.int .i64 m.F,.int .i64 m.T,.int .i64 m.I,.int .i64 m.L,.string m.k,.int .i64 m.N]
def rF (n:Int):Bool:=decide (0<=n/\n<=29)
def fD (n:Int):Bool:=decide (1<=n/\n<=1000000000)
def lU (f t:Int):Bool:=rF f&&rF t&&decide (f≠t)
def bX (m:Mg):Bool:=
 lU m.F m.T&&
  (if m.K=0 then keyOk m.k.data.toList&&fD m.N&&decide (m.I=0)&&decide (m.L=0)
   else if m.K=1 then keyOk m.k.data.toList&&fD m.N&&fD m.I&&decide (1<=m.L/\m.L<=m.I)
   else if m.K=2 then fD m.I&&decide (m.k.size=0)&&decide (m.N=0)&&decide (m.L=0)
   else false)
end Mth
open Go.RowKit
open Mth
theorem wp_at {P:Program} {Q:Exit->Act->World->Prop} {c:Code} {a:Act} {W:World} (h:∀W',W'=W->Code.wp P c Q a W'):Code.wp P c Q a W:=h W rfl
theorem aj (w:World) (o:Obj):Below w.heap.size w (w.alloc o):=(Below.refl _ _).alloc (Nat.le_refl _) _
theorem Ik {p:Prop} [Decidable p] (h:¬p):Ending.returned (.bool false)= .returned (.bool (decide p)):=by rw [decide_eq_false h]
theorem Sk {p q:Prop} [Decidable p] [Decidable q] (h:p↔q):Ending.returned (.bool (decide p))= .returned (.bool (decide q)):=by rw [decide_eq_decide.2 h]
theorem rW (x a b:Int) (r:Bool) (w:World) (h:decide (a<=x/\x<=b)=r):Calls Tryz.prog 63 #[.int .i64 x,.int .i64 a,.int .i64 b] w λe w'=>e= .returned (.bool r)/\w=w':=by
 subst h;by_cases h:a<=x/\x<=b
 .rw [decide_eq_true h];exact oh x a b w h.1 h.2
 .rw [decide_eq_false h];exact qM x a b w Aaa
theorem l04Node (n:Int) (r:Bool) (w:World) (h:rF n=r):Calls Tryz.prog 134 #[.int .i64 n] w λe w'=>e= .returned (.bool r)/\w=w':=by
 go_enter Tryz.func134,Tryz.ntmps134
 exact aec
theorem l04Some (n:Int) (r:Bool) (w:World) (h:fD n=r):Calls Tryz.prog 61 #[.int .i64 n] w λe w'=>e= .returned (.bool r)/\w=w':=by
 go_enter Tryz.func61,Tryz.ntmps61
 exact aec
theorem isNode (n:Int) (r:Bool) (w:World) (h:rF n=r):Calls Tryz.prog 128 #[.int .i64 n] w λe w'=>e= .returned (.bool r)/\w=w':=by
 subst h;by_cases h0:0<=n
 .go_enter Tryz.func128,Tryz.ntmps128
  go_wp2
  go_ret;exact⟨Sk Aaa,rfl⟩
 .go_enter Tryz.func128,Tryz.ntmps128
  go_wp2
  go_ret;exact⟨Ik Aaa,rfl⟩
theorem isSomeAmount (n:Int) (r:Bool) (w:World) (h:fD n=r):Calls Tryz.prog 54 #[.int .i64 n] w λe w'=>e= .returned (.bool r)/\w=w':=by
 subst h;by_cases h0:1<=n
 .go_enter Tryz.func54,Tryz.ntmps54
  go_wp2
  go_ret;exact⟨Sk Aaa,rfl⟩
 .go_enter Tryz.func54,Tryz.ntmps54
  go_wp2
  go_ret;exact⟨Ik Aaa,rfl⟩
theorem gV (s:ByteArray) (b:Bool) (w:World) (h:keyOk s.data.toList=b):Calls Tryz.prog 131 #[.string s] w λe w'=>e= .returned (.bool b)/\w=w':=by
 rw [<-h];exact GZ s w
theorem lK (s:ByteArray) (b:Bool) (w:World) (hs:s.size<=maxLen) (h:keyOk s.data.toList=b):Calls Tryz.prog 64 #[.string s] w λe w'=>e= .returned (.bool b)/\w=w':=by
 rw [<-h];exact Iq s w hs
namespace Mth
structure gM where
 K:Int
 no:Int
 k:ByteArray
 n:Int
 m:Mg
def kX (m:Mg):Bool:=decide (m.K=0/\m.F=0/\m.T=0/\m.I=0/\m.L=0/\m.k.toList=[]/\m.N=0)
def bV (o:gM):Bool:=
 if o.K=0\/o.K=3\/o.K=4 then keyOk o.k.data.toList&&fD o.n&&decide (o.no=0)&&kX o.m
 else if o.K=1 then keyOk o.k.data.toList&&fD o.n&&fD o.no&&kX o.m
 else if o.K=2 then decide (o.k.toList=[])&&decide (o.n=0)&&fD o.no&&kX o.m
 else if o.K=5 then decide (o.k.toList=[])&&decide (o.n=0)&&decide (o.no=0)&&kX o.m
 else if o.K=6 then decide (o.k.toList=[])&&decide (o.n=0)&&decide (o.no=0)&&bX o.m
 else false
end Mth
abbrev bY (K no:Int) (k:ByteArray) (nn mK mF mT mI mL:Int) (mk:ByteArray) (mN:Int):Array Value:=#[.int .i64 K,.int .i64 no,.string k,.int .i64 nn,.int .i64 mK,.int .i64 mF,.int .i64 mT,.int .i64 mI,.int .i64 mL,.string mk,.int .i64 mN]
abbrev jB (o:gM):Value:= .agg #[.int .i64 o.K,.int .i64 o.no,.string o.k,.int .i64 o.n,.int .i64 o.m.K,.int .i64 o.m.F,.int .i64 o.m.T,.int .i64 o.m.I,.int .i64 o.m.L,.string o.m.k,.int .i64 o.m.N]
set_option maxRecDepth 100000
theorem cu {w:World} {g:Nat} {o:Obj} (h:w.heap[g]?=some o):g < w.heap.size:=by
 exact afI
theorem aI {w w':World} {g:Nat} {o:Obj} (h:w.heap[g]?=some o) (hb:aX w w'):w'.heap[g]?=some o:=by
 rw [hb.block g (cu h)];exact h
theorem cells3 {w:World} {g:Nat} {a0 a1 a2:Value} {t:TypeId} (h:w.heap[g]?=some (.cells #[a0,a1,a2] t (0,0))):
 w.cell? ⟨g,0,none⟩=some a0/\w.cell? ⟨g,1,none⟩=some a1/\w.cell? ⟨g,2,none⟩=some a2:=by
 have hc:∀i,w.cell? ⟨g,i,none⟩=#[a0,a1,a2][i]?:=λi=>cell_of_row w g i _ t (0,0) h
 exact⟨hc 0,hc 1,hc 2⟩
theorem CX {w:World} {g:Nat} {a0 a1 a2 a3:Value} {t:TypeId} (h:w.heap[g]?=some (.cells #[a0,a1,a2,a3] t (0,0))):
 w.cell? ⟨g,0,none⟩=some a0/\w.cell? ⟨g,1,none⟩=some a1/\w.cell? ⟨g,2,none⟩=some a2/\w.cell? ⟨g,3,none⟩=some a3:=by
 have hc:∀i,w.cell? ⟨g,i,none⟩=#[a0,a1,a2,a3][i]?:=λi=>cell_of_row w g i _ t (0,0) h
 exact⟨hc 0,hc 1,hc 2,hc 3⟩
theorem wC {w:World} {g:Nat} {a0 a1 a2 a3 a4 a5:Value} {t:TypeId} (h:w.heap[g]?=some (.cells #[a0,a1,a2,a3,a4,a5] t (0,0))):
 w.cell? ⟨g,0,none⟩=some a0/\w.cell? ⟨g,1,none⟩=some a1/\w.cell? ⟨g,2,none⟩=some a2/\w.cell? ⟨g,3,none⟩=some a3/\w.cell? ⟨g,4,none⟩=some a4/\w.cell? ⟨g,5,none⟩=some a5:=by
 have hc:∀i,w.cell? ⟨g,i,none⟩=#[a0,a1,a2,a3,a4,a5][i]?:=λi=>cell_of_row w g i _ t (0,0) h
 exact⟨hc 0,hc 1,hc 2,hc 3,hc 4,hc 5⟩
theorem rH {w:World} {g:Nat} {a0 a1 a2 a3 a4 a5 a6:Value} {t:TypeId} (h:w.heap[g]?=some (.cells #[a0,a1,a2,a3,a4,a5,a6] t (0,0))):
 w.cell? ⟨g,0,none⟩=some a0/\w.cell? ⟨g,1,none⟩=some a1/\w.cell? ⟨g,2,none⟩=some a2/\w.cell? ⟨g,3,none⟩=some a3/\w.cell? ⟨g,4,none⟩=some a4/\w.cell? ⟨g,5,none⟩=some a5/\w.cell? ⟨g,6,none⟩=some a6:=by
 have hc:∀i,w.cell? ⟨g,i,none⟩=#[a0,a1,a2,a3,a4,a5,a6][i]?:=λi=>cell_of_row w g i _ t (0,0) h
 exact⟨hc 0,hc 1,hc 2,hc 3,hc 4,hc 5,hc 6⟩
theorem vC (F T:Int) (r:Bool) (w:World) (h:lU F T=r):Calls Tryz.prog 296 #[.agg #[.int .i64 F,.int .i64 T]] w (eP w (.bool r)):=by
 subst h;cases h1:rF F
 case' false=>
  have HP:=Hq (show lU F T=false by simp[lU,h1])
  have H1:=Hq (λw1=>isNode F false w1 h1)
  clear h1
  go_enter Tryz.func296,Tryz.ntmps296
  go_wp2_with (first|(go_at_call_of 128 F;refine(H1 _).mono ?_;rintro e w1 ⟨rfl,rfl⟩))
  go_ret
  exact⟨aD HP.symm,aj w _⟩
 have H1:=Hq (λw1=>isNode F true w1 h1);cases h2:rF T
 case' false=>
  have HP:=Hq (show lU F T=false by simp[lU,h2])
  have H2:=Hq (λw1=>isNode T false w1 h2)
  clear h1 h2
  go_enter Tryz.func296,Tryz.ntmps296
  go_wp2_with (first|(go_at_call_of 128 F;refine(H1 _).mono ?_;rintro e w1 ⟨rfl,rfl⟩)|(go_at_call_of 128 T;refine(H2 _).mono ?_;rintro e w1 ⟨rfl,rfl⟩))
  go_ret
  exact⟨aD HP.symm,aj w _⟩
 have H2:=Hq (λw1=>isNode T true w1 h2);by_cases hft:F=T
 case' pos=>
  have HP:=Hq (show lU F T=false by simp[lU,hft])
  clear h1 h2
  subst hft
  go_enter Tryz.func296,Tryz.ntmps296
  go_wp2_with (first|(go_at_call_of 128 F;refine(H1 _).mono ?_;rintro e w1 ⟨rfl,rfl⟩))
  go_ret
  exact⟨aD HP.symm,aj w _⟩
 have HP:=Hq (show lU F T=true by simp[lU,h1,h2,hft]);have he:(F != T)=true:=by simp[hft]
 clear h1 h2;go_enter Tryz.func296,Tryz.ntmps296
 go_wp2_with (first|(go_at_call_of 128 F;refine(H1 _).mono ?_;rintro e w1 ⟨rfl,rfl⟩)|(go_at_call_of 128 T;refine(H2 _).mono ?_;rintro e w1 ⟨rfl,rfl⟩))
 go_ret;exact⟨aD (by first|exact HP.symm|exact he.trans HP.symm),aj w _⟩
theorem Kq (F T:Int) (k:ByteArray) (N:Int) (r:Bool) (w:World) (h:(lU F T&&keyOk k.data.toList&&fD N)=r):Calls Tryz.prog 297 #[.agg #[.int .i64 F,.int .i64 T,.string k,.int .i64 N]] w (eP w (.bool r)):=by
 have HQ:=Hq h;clear h;cases hr:lU F T
 case' false=>
  have HP:=Hq (show(lU F T&&keyOk k.data.toList&&fD N)=false by simp[hr])
  have HR:=Hq (λw1=>vC F T false w1 hr)
  clear hr
  go_enter Tryz.func297,Tryz.ntmps297
  go_wp2_with (first|(go_at_call 296;refine(HR _).mono ?_;rintro e w2 ⟨rfl,hb2⟩;have hA:=aI (heap_alloc_new w _) hb2;have hB:=(aj w _).trans (hb2.mono Aac);obtain⟨c0,c1,c2,c3⟩:=CX hA;have hz:=cu hA;clear hA hb2))
  go_ret
  exact⟨aD (HP.symm.trans HQ),hB⟩
 have HR:=Hq (λw1=>vC F T true w1 hr);cases hc0:keyOk k.data.toList
 case' false=>
  have HP:=Hq (show(lU F T&&keyOk k.data.toList&&fD N)=false by simp[hr,hc0])
  have CB:=Hq (λw1=>gV k false w1 hc0)
  clear hr hc0
  go_enter Tryz.func297,Tryz.ntmps297
  go_wp2_with (first|(go_at_call 296;refine(HR _).mono ?_;rintro e w2 ⟨rfl,hb2⟩;have hA:=aI (heap_alloc_new w _) hb2;have hB:=(aj w _).trans (hb2.mono Aac);obtain⟨c0,c1,c2,c3⟩:=CX hA;have hz:=cu hA;clear hA hb2)|(go_at_call_of 131 k;refine(CB _).mono ?_;rintro e w1 ⟨rfl,rfl⟩))
  go_ret
  exact⟨aD (HP.symm.trans HQ),hB⟩
 have CB:=Hq (λw1=>gV k true w1 hc0);cases hc1:fD N
 case' false=>
  have HP:=Hq (show(lU F T&&keyOk k.data.toList&&fD N)=false by simp[hr,hc0,hc1])
  have HC1:=Hq (λw1=>isSomeAmount N false w1 hc1)
  clear hr hc0 hc1
  go_enter Tryz.func297,Tryz.ntmps297
  go_wp2_with (first|(go_at_call 296;refine(HR _).mono ?_;rintro e w2 ⟨rfl,hb2⟩;have hA:=aI (heap_alloc_new w _) hb2;have hB:=(aj w _).trans (hb2.mono Aac);obtain⟨c0,c1,c2,c3⟩:=CX hA;have hz:=cu hA;clear hA hb2)|(go_at_call_of 131 k;refine(CB _).mono ?_;rintro e w1 ⟨rfl,rfl⟩)|(go_at_call_of 54 N;refine(HC1 _).mono ?_;rintro e w1 ⟨rfl,rfl⟩))
  go_ret
  exact⟨aD (HP.symm.trans HQ),hB⟩
 have HC1:=Hq (λw1=>isSomeAmount N true w1 hc1);have HP:=Hq (show(lU F T&&keyOk k.data.toList&&fD N)=true by simp[hr,hc0,hc1]);clear hr hc0 hc1;go_enter Tryz.func297,Tryz.ntmps297
 go_wp2_with (first|(go_at_call 296;refine(HR _).mono ?_;rintro e w2 ⟨rfl,hb2⟩;have hA:=aI (heap_alloc_new w _) hb2;have hB:=(aj w _).trans (hb2.mono Aac);obtain⟨c0,c1,c2,c3⟩:=CX hA;have hz:=cu hA;clear hA hb2)|(go_at_call_of 131 k;refine(CB _).mono ?_;rintro e w1 ⟨rfl,rfl⟩)|(go_at_call_of 54 N;refine(HC1 _).mono ?_;rintro e w1 ⟨rfl,rfl⟩))
 exact Xy
theorem aeP (F T I L:Int) (k:ByteArray) (N:Int) (r:Bool) (w:World) (h:(lU F T&&fD I&&decide (1<=L)&&decide (L<=I)&&keyOk k.data.toList&&fD N)=r):Calls Tryz.prog 298 #[.agg #[.int .i64 F,.int .i64 T,.int .i64 I,.int .i64 L,.string k,.int .i64 N]] w (eP w (.bool r)):=by
 have HQ:=Hq h;clear h;cases hr:lU F T
 case' false=>
  have HP:=Hq (show(lU F T&&fD I&&decide (1<=L)&&decide (L<=I)&&keyOk k.data.toList&&fD N)=false by simp[hr])
  have HR:=Hq (λw1=>vC F T false w1 hr)
  clear hr
  go_enter Tryz.func298,Tryz.ntmps298
  go_wp2_with (first|(go_at_call 296;refine(HR _).mono ?_;rintro e w2 ⟨rfl,hb2⟩;have hA:=aI (heap_alloc_new w _) hb2;have hB:=(aj w _).trans (hb2.mono Aac);obtain⟨c0,c1,c2,c3,c4,c5⟩:=wC hA;have hz:=cu hA;clear hA hb2))
  go_ret
  exact⟨aD (HP.symm.trans HQ),hB⟩
 have HR:=Hq (λw1=>vC F T true w1 hr);cases hc0:fD I
 case' false=>
  have HP:=Hq (show(lU F T&&fD I&&decide (1<=L)&&decide (L<=I)&&keyOk k.data.toList&&fD N)=false by simp[hr,hc0])
  have CB:=Hq (λw1=>isSomeAmount I false w1 hc0)
  clear hr hc0
  go_enter Tryz.func298,Tryz.ntmps298
  go_wp2_with (first|(go_at_call 296;refine(HR _).mono ?_;rintro e w2 ⟨rfl,hb2⟩;have hA:=aI (heap_alloc_new w _) hb2;have hB:=(aj w _).trans (hb2.mono Aac);obtain⟨c0,c1,c2,c3,c4,c5⟩:=wC hA;have hz:=cu hA;clear hA hb2)|(go_at_call_of 54 I;refine(CB _).mono ?_;rintro e w1 ⟨rfl,rfl⟩))
  go_ret
  exact⟨aD (HP.symm.trans HQ),hB⟩
 have CB:=Hq (λw1=>isSomeAmount I true w1 hc0);by_cases hd1:1<=L
 case' neg=>
  have HP:=Hq (show(lU F T&&fD I&&decide (1<=L)&&decide (L<=I)&&keyOk k.data.toList&&fD N)=false by simp[hr,hc0,hd1])
  clear hr hc0
  go_enter Tryz.func298,Tryz.ntmps298
  go_wp2_with (first|(go_at_call 296;refine(HR _).mono ?_;rintro e w2 ⟨rfl,hb2⟩;have hA:=aI (heap_alloc_new w _) hb2;have hB:=(aj w _).trans (hb2.mono Aac);obtain⟨c0,c1,c2,c3,c4,c5⟩:=wC hA;have hz:=cu hA;clear hA hb2)|(go_at_call_of 54 I;refine(CB _).mono ?_;rintro e w1 ⟨rfl,rfl⟩))
  go_ret
  exact⟨aD (HP.symm.trans HQ),hB⟩
 by_cases hd2:L<=I
 case' neg=>
  have HP:=Hq (show(lU F T&&fD I&&decide (1<=L)&&decide (L<=I)&&keyOk k.data.toList&&fD N)=false by simp[hr,hc0,hd1,hd2])
  clear hr hc0
  go_enter Tryz.func298,Tryz.ntmps298
  go_wp2_with (first|(go_at_call 296;refine(HR _).mono ?_;rintro e w2 ⟨rfl,hb2⟩;have hA:=aI (heap_alloc_new w _) hb2;have hB:=(aj w _).trans (hb2.mono Aac);obtain⟨c0,c1,c2,c3,c4,c5⟩:=wC hA;have hz:=cu hA;clear hA hb2)|(go_at_call_of 54 I;refine(CB _).mono ?_;rintro e w1 ⟨rfl,rfl⟩))
  go_ret
  exact⟨aD (HP.symm.trans HQ),hB⟩
 cases hc1:keyOk k.data.toList
 case' false=>
  have HP:=Hq (show(lU F T&&fD I&&decide (1<=L)&&decide (L<=I)&&keyOk k.data.toList&&fD N)=false by simp[hr,hc0,hd1,hd2,hc1])
  have HC1:=Hq (λw1=>gV k false w1 hc1)
  clear hr hc0 hc1
  go_enter Tryz.func298,Tryz.ntmps298
  go_wp2_with (first|(go_at_call 296;refine(HR _).mono ?_;rintro e w2 ⟨rfl,hb2⟩;have hA:=aI (heap_alloc_new w _) hb2;have hB:=(aj w _).trans (hb2.mono Aac);obtain⟨c0,c1,c2,c3,c4,c5⟩:=wC hA;have hz:=cu hA;clear hA hb2)|(go_at_call_of 54 I;refine(CB _).mono ?_;rintro e w1 ⟨rfl,rfl⟩)|(go_at_call_of 131 k;refine(HC1 _).mono ?_;rintro e w1 ⟨rfl,rfl⟩))
  go_ret
  exact⟨aD (HP.symm.trans HQ),hB⟩
 have HC1:=Hq (λw1=>gV k true w1 hc1);cases hc2:fD N
 case' false=>
  have HP:=Hq (show(lU F T&&fD I&&decide (1<=L)&&decide (L<=I)&&keyOk k.data.toList&&fD N)=false by simp[hr,hc0,hd1,hd2,hc1,hc2])
  have wY:=Hq (λw1=>isSomeAmount N false w1 hc2)
  clear hr hc0 hc1 hc2
  go_enter Tryz.func298,Tryz.ntmps298
  go_wp2_with (first|(go_at_call 296;refine(HR _).mono ?_;rintro e w2 ⟨rfl,hb2⟩;have hA:=aI (heap_alloc_new w _) hb2;have hB:=(aj w _).trans (hb2.mono Aac);obtain⟨c0,c1,c2,c3,c4,c5⟩:=wC hA;have hz:=cu hA;clear hA hb2)|(go_at_call_of 54 I;refine(CB _).mono ?_;rintro e w1 ⟨rfl,rfl⟩)|(go_at_call_of 131 k;refine(HC1 _).mono ?_;rintro e w1 ⟨rfl,rfl⟩)|(go_at_call_of 54 N;refine(wY _).mono ?_;rintro e w1 ⟨rfl,rfl⟩))
  go_ret
  exact⟨aD (HP.symm.trans HQ),hB⟩
 have wY:=Hq (λw1=>isSomeAmount N true w1 hc2);have HP:=Hq (show(lU F T&&fD I&&decide (1<=L)&&decide (L<=I)&&keyOk k.data.toList&&fD N)=true by simp[hr,hc0,hd1,hd2,hc1,hc2]);clear hr hc0 hc1 hc2;go_enter Tryz.func298,Tryz.ntmps298
 go_wp2_with (first|(go_at_call 296;refine(HR _).mono ?_;rintro e w2 ⟨rfl,hb2⟩;have hA:=aI (heap_alloc_new w _) hb2;have hB:=(aj w _).trans (hb2.mono Aac);obtain⟨c0,c1,c2,c3,c4,c5⟩:=wC hA;have hz:=cu hA;clear hA hb2)|(go_at_call_of 54 I;refine(CB _).mono ?_;rintro e w1 ⟨rfl,rfl⟩)|(go_at_call_of 131 k;refine(HC1 _).mono ?_;rintro e w1 ⟨rfl,rfl⟩)|(go_at_call_of 54 N;refine(wY _).mono ?_;rintro e w1 ⟨rfl,rfl⟩))
 exact Xy
theorem Lv (F T I:Int) (r:Bool) (w:World) (h:(lU F T&&fD I)=r):Calls Tryz.prog 299 #[.agg #[.int .i64 F,.int .i64 T,.int .i64 I]] w (eP w (.bool r)):=by
 have HQ:=Hq h;clear h;cases hr:lU F T
 case' false=>
  have HP:=Hq (show(lU F T&&fD I)=false by simp[hr])
  have HR:=Hq (λw1=>vC F T false w1 hr)
  clear hr
  go_enter Tryz.func299,Tryz.ntmps299
  go_wp2_with (first|(go_at_call 296;refine(HR _).mono ?_;rintro e w2 ⟨rfl,hb2⟩;have hA:=aI (heap_alloc_new w _) hb2;have hB:=(aj w _).trans (hb2.mono Aac);obtain⟨c0,c1,c2⟩:=cells3 hA;have hz:=cu hA;clear hA hb2))
  go_ret
  exact⟨aD (HP.symm.trans HQ),hB⟩
 have HR:=Hq (λw1=>vC F T true w1 hr);cases hc0:fD I
 case' false=>
  have HP:=Hq (show(lU F T&&fD I)=false by simp[hr,hc0])
  have CB:=Hq (λw1=>isSomeAmount I false w1 hc0)
  clear hr hc0
  go_enter Tryz.func299,Tryz.ntmps299
  go_wp2_with (first|(go_at_call 296;refine(HR _).mono ?_;rintro e w2 ⟨rfl,hb2⟩;have hA:=aI (heap_alloc_new w _) hb2;have hB:=(aj w _).trans (hb2.mono Aac);obtain⟨c0,c1,c2⟩:=cells3 hA;have hz:=cu hA;clear hA hb2)|(go_at_call_of 54 I;refine(CB _).mono ?_;rintro e w1 ⟨rfl,rfl⟩))
  go_ret
  exact⟨aD (HP.symm.trans HQ),hB⟩
 have CB:=Hq (λw1=>isSomeAmount I true w1 hc0);have HP:=Hq (show(lU F T&&fD I)=true by simp[hr,hc0]);clear hr hc0;go_enter Tryz.func299,Tryz.ntmps299
 go_wp2_with (first|(go_at_call 296;refine(HR _).mono ?_;rintro e w2 ⟨rfl,hb2⟩;have hA:=aI (heap_alloc_new w _) hb2;have hB:=(aj w _).trans (hb2.mono Aac);obtain⟨c0,c1,c2⟩:=cells3 hA;have hz:=cu hA;clear hA hb2)|(go_at_call_of 54 I;refine(CB _).mono ?_;rintro e w1 ⟨rfl,rfl⟩))
 exact Xy
theorem dG {w:World} {g:Nat} {a0 a1 a2 a3 a4 a5 a6:Value} {t:TypeId} (h:w.heap[g]?=some (.cells #[a0,a1,a2,a3,a4,a5,a6] t (0,0))):
 (w.cell? ⟨g,0,none⟩=some a0/\w.cell? ⟨g,1,none⟩=some a1/\w.cell? ⟨g,2,none⟩=some a2/\w.cell? ⟨g,3,none⟩=some a3/\w.cell? ⟨g,4,none⟩=some a4/\w.cell? ⟨g,5,none⟩=some a5/\w.cell? ⟨g,6,none⟩=some a6)/\
  (w.frozen? ⟨g,0,none⟩=false/\w.frozen? ⟨g,1,none⟩=false/\w.frozen? ⟨g,2,none⟩=false/\w.frozen? ⟨g,3,none⟩=false/\w.frozen? ⟨g,4,none⟩=false/\w.frozen? ⟨g,5,none⟩=false/\w.frozen? ⟨g,6,none⟩=false):=by
 have hf:∀i,w.frozen? ⟨g,i,none⟩=false:=λi=>by unfold World.frozen?;rw [h];simp
 exact⟨rH h,hf 0,hf 1,hf 2,hf 3,hf 4,hf 5,hf 6⟩
theorem blk_set {w:World} {c:Nat} {cs:Array Value} {t:TypeId} (h:w.heap[c]?=some (.cells cs t (0,0))) (i:Nat) (v:Value):(w.setCell ⟨c,i,none⟩ v).heap[c]?=some (.cells (cs.setIfInBounds i v) t (0,0)):=by
 exact aaO
theorem one_other {w:World} {g g' i:Nat} {v:Value} {o:Option Obj} (h:w.heap[g']?=o) (hne:g'≠g):(w.setCell ⟨g,i,none⟩ v).heap[g']?=o:=by rw [Below.heap_setCell _ _ _ _ hne,h]
theorem mJ {w:World} {g:Nat} {a0 a1 a2 a3 a4 a5 a6 b0 b1 b2 b3 b4 b5 b6:Value} {t:TypeId} (h:w.heap[g]?=some (.cells #[a0,a1,a2,a3,a4,a5,a6] t (0,0))):
 (((((((w.setCell ⟨g,0,none⟩ b0).setCell ⟨g,1,none⟩ b1).setCell ⟨g,2,none⟩ b2).setCell ⟨g,3,none⟩ b3).setCell ⟨g,4,none⟩ b4).setCell ⟨g,5,none⟩ b5).setCell ⟨g,6,none⟩ b6).heap[g]?=some (.cells #[b0,b1,b2,b3,b4,b5,b6] t (0,0)):=by
 have h0:(w.setCell ⟨g,0,none⟩ b0).heap[g]?=some (.cells #[b0,a1,a2,a3,a4,a5,a6] t (0,0)):=blk_set h 0 b0;have h1:((w.setCell ⟨g,0,none⟩ b0).setCell ⟨g,1,none⟩ b1).heap[g]?=some (.cells #[b0,b1,a2,a3,a4,a5,a6] t (0,0)):=blk_set h0 1 b1;have h2:(((w.setCell ⟨g,0,none⟩ b0).setCell ⟨g,1,none⟩ b1).setCell ⟨g,2,none⟩ b2).heap[g]?=some (.cells #[b0,b1,b2,a3,a4,a5,a6] t (0,0)):=blk_set h1 2 b2;have h3:((((w.setCell ⟨g,0,none⟩ b0).setCell ⟨g,1,none⟩ b1).setCell ⟨g,2,none⟩ b2).setCell ⟨g,3,none⟩ b3).heap[g]?=some (.cells #[b0,b1,b2,b3,a4,a5,a6] t (0,0)):=blk_set h2 3 b3;have h4:(((((w.setCell ⟨g,0,none⟩ b0).setCell ⟨g,1,none⟩ b1).setCell ⟨g,2,none⟩ b2).setCell ⟨g,3,none⟩ b3).setCell ⟨g,4,none⟩ b4).heap[g]?=some (.cells #[b0,b1,b2,b3,b4,a5,a6] t (0,0)):=blk_set h3 4 b4;have h5:((((((w.setCell ⟨g,0,none⟩ b0).setCell ⟨g,1,none⟩ b1).setCell ⟨g,2,none⟩ b2).setCell ⟨g,3,none⟩ b3).setCell ⟨g,4,none⟩ b4).setCell ⟨g,5,none⟩ b5).heap[g]?=some (.cells #[b0,b1,b2,b3,b4,b5,a6] t (0,0)):=blk_set h4 5 b5;have h6:(((((((w.setCell ⟨g,0,none⟩ b0).setCell ⟨g,1,none⟩ b1).setCell ⟨g,2,none⟩ b2).setCell ⟨g,3,none⟩ b3).setCell ⟨g,4,none⟩ b4).setCell ⟨g,5,none⟩ b5).setCell ⟨g,6,none⟩ b6).heap[g]?=some (.cells #[b0,b1,b2,b3,b4,b5,b6] t (0,0)):=blk_set h5 6 b6;exact h6
theorem kQ {a w:World} {B g:Nat} {b0 b1 b2 b3 b4 b5 b6:Value} (h:Below B a w) (hg:B<=g):
 Below B a (((((((w.setCell ⟨g,0,none⟩ b0).setCell ⟨g,1,none⟩ b1).setCell ⟨g,2,none⟩ b2).setCell ⟨g,3,none⟩ b3).setCell ⟨g,4,none⟩ b4).setCell ⟨g,5,none⟩ b5).setCell ⟨g,6,none⟩ b6):=
 ((((((h.setCell (p:=⟨g,0,none⟩) hg b0).setCell (p:=⟨g,1,none⟩) hg b1).setCell (p:=⟨g,2,none⟩) hg b2).setCell (p:=⟨g,3,none⟩) hg b3).setCell (p:=⟨g,4,none⟩) hg b4).setCell (p:=⟨g,5,none⟩) hg b5).setCell (p:=⟨g,6,none⟩) hg b6
theorem bodyPost_at {P:Program} {fn:Func} {Q:Ending->World->Prop} {x:Exit} {act:Act} {W:World} (h:∀W',W'=W->bodyPost P fn Q x act W'):bodyPost P fn Q x act W:=h W rfl
theorem I8 (v:Value) (w:World):(Instr.typeAssert (.iface 154 v) 105 154 true).run Tryz.prog w= .ok (.tuple #[v,.bool true]) w:=Aab
theorem LC (v:Value) (w:World):(Instr.typeAssert (.iface 156 v) 105 154 true).run Tryz.prog w= .ok (.tuple #[.agg #[.int .i64 0,.int .i64 0,.string ⟨#[]⟩,.int .i64 0],.bool false]) w:=Aab
theorem Pz (v:Value) (w:World):(Instr.typeAssert (.iface 156 v) 105 156 true).run Tryz.prog w= .ok (.tuple #[v,.bool true]) w:=Aab
theorem LA (v:Value) (w:World):(Instr.typeAssert (.iface 158 v) 105 154 true).run Tryz.prog w= .ok (.tuple #[.agg #[.int .i64 0,.int .i64 0,.string ⟨#[]⟩,.int .i64 0],.bool false]) w:=Aab
theorem Py (v:Value) (w:World):(Instr.typeAssert (.iface 158 v) 105 156 true).run Tryz.prog w= .ok (.tuple #[.agg #[.int .i64 0,.int .i64 0,.int .i64 0,.int .i64 0,.string ⟨#[]⟩,.int .i64 0],.bool false]) w:=Aab
theorem Px (v:Value) (w:World):(Instr.typeAssert (.iface 158 v) 105 158 true).run Tryz.prog w= .ok (.tuple #[v,.bool true]) w:=Aab
theorem wM (F T:Int) (k:ByteArray) (N:Int) (w:World):Calls Tryz.prog 135 #[.iface 154 (.agg #[.int .i64 F,.int .i64 T,.string k,.int .i64 N])] w (eP w (nS ⟨0,F,T,0,0,k,N⟩)):=by
 have f0:=I8 (.agg #[.int .i64 F,.int .i64 T,.string k,.int .i64 N]);go_enter Tryz.func135,Tryz.ntmps135
 go_wp2_with fail;refine bodyPost_ret (v:= .agg (bJ 0 F T 0 0 k N)) Adk rfl ⟨rfl,?_⟩;exact Xr
theorem Ul (F T I L:Int) (k:ByteArray) (N:Int) (w:World):Calls Tryz.prog 135 #[.iface 156 (.agg #[.int .i64 F,.int .i64 T,.int .i64 I,.int .i64 L,.string k,.int .i64 N])] w (eP w (nS ⟨1,F,T,I,L,k,N⟩)):=by
 have f0:=LC (.agg #[.int .i64 F,.int .i64 T,.int .i64 I,.int .i64 L,.string k,.int .i64 N]);have f1:=Pz (.agg #[.int .i64 F,.int .i64 T,.int .i64 I,.int .i64 L,.string k,.int .i64 N]);go_enter Tryz.func135,Tryz.ntmps135
 go_wp2_with fail;refine bodyPost_ret (v:= .agg (bJ 1 F T I L k N)) Adk rfl ⟨rfl,?_⟩;exact Xr
theorem vw (F T I:Int) (w:World):Calls Tryz.prog 135 #[.iface 158 (.agg #[.int .i64 F,.int .i64 T,.int .i64 I])] w (eP w (nS ⟨2,F,T,I,0,ByteArray.empty,0⟩)):=by
 have f0:=LA (.agg #[.int .i64 F,.int .i64 T,.int .i64 I]);have f1:=Py (.agg #[.int .i64 F,.int .i64 T,.int .i64 I]);have f2:=Px (.agg #[.int .i64 F,.int .i64 T,.int .i64 I]);go_enter Tryz.func135,Tryz.ntmps135
 go_wp2_with fail;refine bodyPost_ret (v:= .agg (bJ 2 F T I 0 ByteArray.empty 0)) Adk rfl ⟨rfl,?_⟩;exact Xr
def kb (K:Int):ByteArray:=⟨[UInt8.ofNat K.toNat].toArray⟩
def yC (m:Mg):ByteArray:=kb m.K++lH m.F++lH m.T++lH m.I++lH m.L++nJ m.k++lH m.N
def jq (m:Mg):ByteArray:=if bX m=true then yC m else ByteArray.empty
theorem wQ {m:Mg} (h:bX m=true):jq m=yC m:=by unfold jq;rw [if_pos h]
theorem zZ {m:Mg} (h:bX m=false):jq m=ByteArray.empty:=by unfold jq;rw [if_neg (by rw [h];simp)]
theorem abh {m:Mg} (h:bX m=true):0<=m.K/\m.K<=2:=by
 unfold bX at h;simp only[Bool.and_eq_true] at h;obtain⟨_,h⟩:=h;exact afK
theorem RZ (K:Int):(kb K).size=1:=rfl
theorem Tw (w:World) (g:Nat) (K:Int) (h:0<=K/\K<=2) (hc:w.cell? ⟨g,0,none⟩=some (.int .u8 K)):(convert 22 9 (.slice (some ⟨g,0,none⟩) 1 1)).run Tryz.prog w= .ok (.string (kb K)) w:=by
 exact asH
def yG (o:gM):ByteArray:=kb o.K++lH o.no++nJ o.k++lH o.n++nJ (jq o.m)
def uI (o:gM):ByteArray:=if bV o=true then yG o else ByteArray.empty
theorem Ab {o:gM} (h:bV o=true):uI o=yG o:=by unfold uI;rw [if_pos h]
theorem Nv {o:gM} (h:bV o=false):uI o=ByteArray.empty:=by unfold uI;rw [if_neg (by rw [h];simp)]
theorem Us {o:gM} (h:bV o=true):0<=o.K/\o.K<=6:=by
 unfold bV at h;split at h
 .omega
 .split at h
  .omega
  .exact afK
theorem PI (w:World) (g:Nat) (K:Int) (h:0<=K/\K<=6) (hc:w.cell? ⟨g,0,none⟩=some (.int .u8 K)):(convert 22 9 (.slice (some ⟨g,0,none⟩) 1 1)).run Tryz.prog w= .ok (.string (kb K)) w:=by
 exact asH
theorem QO (K:Int) (h0:0<=K) (h6:K<=6):IntKind.u8.wrap K=K:=by
 have h3:K=0\/K=1\/K=2\/K=3\/K=4\/K=5\/K=6:=Aaa
 rcases h3 with rfl|rfl|rfl|rfl|rfl|rfl|rfl<;>rfl
theorem Ry {w:World} {g:Nat} {v0 v1 v2 v3 v4 v5 v6 v7 v8 v9 v10:Value} {t:TypeId} (h:w.heap[g]?=some (.cells #[v0,v1,v2,v3,v4,v5,v6,v7,v8,v9,v10] t (0,0))):
 w.cell? ⟨g,0,none⟩=some v0/\w.cell? ⟨g,1,none⟩=some v1/\w.cell? ⟨g,2,none⟩=some v2/\w.cell? ⟨g,3,none⟩=some v3/\w.cell? ⟨g,4,none⟩=some v4/\w.cell? ⟨g,5,none⟩=some v5/\w.cell? ⟨g,6,none⟩=some v6/\w.cell? ⟨g,7,none⟩=some v7/\w.cell? ⟨g,8,none⟩=some v8/\w.cell? ⟨g,9,none⟩=some v9/\w.cell? ⟨g,10,none⟩=some v10:=by
 exact as8
def jA (s:ByteArray):Nat:=65536*(sums s.data.toList).2+(sums s.data.toList).1
theorem Ki (s:ByteArray):jA s < 4294967296:=by
 have:=sums_lt s.data.toList;unfold jA;omega
def four (n:Nat):List UInt8:=[UInt8.ofNat (n / 16777216),UInt8.ofNat (n / 65536 % 256),UInt8.ofNat (n / 256 % 256),UInt8.ofNat (n % 256)]
def kR (n:Nat):ByteArray:=⟨(four n).toArray⟩
theorem GJ (w:World) (g n cap:Nat) (h:n < 4294967296) (c0:w.cell? ⟨g,0,none⟩=some (.int .u8 ((n:Int) / 16777216))) (c1:w.cell? ⟨g,1,none⟩=some (.int .u8 ((n:Int) / 65536 % 256)))
 (c2:w.cell? ⟨g,2,none⟩=some (.int .u8 ((n:Int) / 256 % 256))) (c3:w.cell? ⟨g,3,none⟩=some (.int .u8 ((n:Int) % 256))):
 (convert 22 9 (.slice (some ⟨g,0,none⟩) 4 cap)).run Tryz.prog w= .ok (.string (kR n)) w:=by
 refine run_convert_bytes_back (P:=Tryz.prog) w 22 9 5 ⟨g,0,none⟩ cap (four n) Tryz.underlying22 Tryz.underlying5 Tryz.underlying9 ?_;intro j hj;have hj4:j < 4:=hj;have hcase:j=0\/j=1\/j=2\/j=3:=Aaa
 rcases hcase with rfl|rfl|rfl|rfl
 .show w.cell? ⟨g,0,none⟩=_
  rw [c0];simp only[four,List.getElem_cons_zero];rw [toNat_byte _ Aaa];rfl
 .show w.cell? ⟨g,1,none⟩=_
  rw [c1];simp only[four,List.getElem_cons_succ,List.getElem_cons_zero];rw [toNat_byte _ Aaa];rfl
 .show w.cell? ⟨g,2,none⟩=_
  rw [c2];simp only[four,List.getElem_cons_succ,List.getElem_cons_zero];rw [toNat_byte _ Aaa];rfl
 .show w.cell? ⟨g,3,none⟩=_
  rw [c3];simp only[four,List.getElem_cons_succ,List.getElem_cons_zero];rw [toNat_byte _ Aaa];rfl
theorem l04Word (n:Nat) (h:n < 4294967296) (w:World):Calls Tryz.prog 141 #[.int .u32 n] w (eP w (.string (kR n))):=by
 have hcv:=GJ (w.alloc (.cells #[.int .u8 ((n:Int) / 16777216),.int .u8 ((n:Int) / 65536 % 256),.int .u8 ((n:Int) / 256 % 256),.int .u8 ((n:Int) % 256)] 5)) w.heap.size n 4 h Aac Aac Aac Aac;go_enter Tryz.func141,Tryz.ntmps141
 go_wp2_with fail;go_ret;exact⟨rfl,aj w _⟩
theorem sumBytes (s:ByteArray) (hs:s.size<=maxLen) (w:World):Calls Tryz.prog 184 #[.string s] w λe w'=>∃g,e= .returned (.slice (some ⟨g,0,none⟩) 4 4)/\w.heap.size<=g/\w'.heap[g]?=some (.cells #[.int .u8 ((jA s:Int) / 16777216),.int .u8 ((jA s:Int) / 65536 % 256),.int .u8 ((jA s:Int) / 256 % 256),.int .u8 ((jA s:Int) % 256)] 5 (0,0))/\aX w w':=by
 have hn:=Ki s;have HC:=Hq (λw1=>Jo s w1 hs);have e:(65536*(sums s.data.toList).2+(sums s.data.toList).1:Int)=(jA s:Int):=by unfold jA;omega
 rw [e] at HC;clear e hs;generalize jA s=n at *;go_enter Tryz.func184,Tryz.ntmps184
 go_wp2_with fail;refine(HC _).mono ?_;rintro e w1 ⟨rfl,rfl⟩;go_wp2_with fail;go_ret;exact⟨w.heap.size,rfl,Nat.le_refl _,heap_alloc_new w _,aj w _⟩
end Go.Proofs.YtacgbldlonoaaaaGreatDoor
