/- Parts. -/
import Derived.Test.YtacgbldlonoaaaaGreatDoorRw8
import Derived.Test.YtacgbldlonoaaaaGreatDoorRw10
namespace Go.Proofs.YtacgbldlonoaaaaGreatDoor
open Go.Proofs.Tryz
set_option maxHeartbeats 2000000
set_option maxRecDepth 100000
open Go.RowKit
open Mth
variable (v:Value) (w:World) {g:Nat} {s:ByteArray} {t:TypeId} {a0 a1 a2 a3 a4 a5 a6:Value} {m:Mg} {o:fP} {i:Int}
theorem bH {w:World} {o:Obj} (h:w.heap[g]?=some o):g < w.heap.size:=by
 exact ajb
theorem aJ {w w':World} {o:Obj} (h:w.heap[g]?=some o) (hb:aY w w'):w'.heap[g]?=some o:=by
 rw [hb.block g (bH h)];exact h
theorem cells3 {w:World} (h:w.heap[g]?=some (.cells #[a0,a1,a2] t (0,0))):
 w.cell? ⟨g,0,none⟩=some a0/\w.cell? ⟨g,1,none⟩=some a1/\w.cell? ⟨g,2,none⟩=some a2:=by
 have hc:∀i,w.cell? ⟨g,i,none⟩=#[a0,a1,a2][i]?:=λi=>cell_of_row w g i _ t (0,0) h
 exact⟨hc 0,hc 1,hc 2⟩
theorem EY {w:World} (h:w.heap[g]?=some (.cells #[a0,a1,a2,a3] t (0,0))):
 w.cell? ⟨g,0,none⟩=some a0/\w.cell? ⟨g,1,none⟩=some a1/\w.cell? ⟨g,2,none⟩=some a2/\w.cell? ⟨g,3,none⟩=some a3:=by
 have hc:∀i,w.cell? ⟨g,i,none⟩=#[a0,a1,a2,a3][i]?:=λi=>cell_of_row w g i _ t (0,0) h
 exact⟨hc 0,hc 1,hc 2,hc 3⟩
theorem yh {w:World} (h:w.heap[g]?=some (.cells #[a0,a1,a2,a3,a4,a5] t (0,0))):
 w.cell? ⟨g,0,none⟩=some a0/\w.cell? ⟨g,1,none⟩=some a1/\w.cell? ⟨g,2,none⟩=some a2/\w.cell? ⟨g,3,none⟩=some a3/\w.cell? ⟨g,4,none⟩=some a4/\w.cell? ⟨g,5,none⟩=some a5:=by
 have hc:∀i,w.cell? ⟨g,i,none⟩=#[a0,a1,a2,a3,a4,a5][i]?:=λi=>cell_of_row w g i _ t (0,0) h
 exact⟨hc 0,hc 1,hc 2,hc 3,hc 4,hc 5⟩
theorem uj {w:World} (h:w.heap[g]?=some (.cells #[a0,a1,a2,a3,a4,a5,a6] t (0,0))):
 w.cell? ⟨g,0,none⟩=some a0/\w.cell? ⟨g,1,none⟩=some a1/\w.cell? ⟨g,2,none⟩=some a2/\w.cell? ⟨g,3,none⟩=some a3/\w.cell? ⟨g,4,none⟩=some a4/\w.cell? ⟨g,5,none⟩=some a5/\w.cell? ⟨g,6,none⟩=some a6:=by
 have hc:∀i,w.cell? ⟨g,i,none⟩=#[a0,a1,a2,a3,a4,a5,a6][i]?:=λi=>cell_of_row w g i _ t (0,0) h
 exact⟨hc 0,hc 1,hc 2,hc 3,hc 4,hc 5,hc 6⟩
theorem wW (F T:Int) (r:Bool) (w:World) (h:nP F T=r):Calls prog 296 #[.agg #[.int .i64 F,.int .i64 T]] w (fF w (.bool r)):=by
 subst h;cases h1:rZ F
 case' false=>
  have HP:=Hq (show nP F T=false by simp[nP,h1])
  have H1:=Hq (λw1=>isNode F false w1 h1)
  clear h1
  go_in
  go_wp2_with (first|(go_at_call_of 128 F;refine(H1 _).mono ?_;rintro e w1 ⟨rfl,rfl⟩))
  go_ret
  exact⟨aD HP.symm,au w _⟩
 have H1:=Hq (λw1=>isNode F true w1 h1);cases h2:rZ T
 case' false=>
  have HP:=Hq (show nP F T=false by simp[nP,h2])
  have H2:=Hq (λw1=>isNode T false w1 h2)
  clear h1 h2
  go_in
  go_wp2_with (first|(go_at_call_of 128 F;refine(H1 _).mono ?_;rintro e w1 ⟨rfl,rfl⟩)|(go_at_call_of 128 T;refine(H2 _).mono ?_;rintro e w1 ⟨rfl,rfl⟩))
  go_ret
  exact⟨aD HP.symm,au w _⟩
 have H2:=Hq (λw1=>isNode T true w1 h2);by_cases hft:F=T
 case' pos=>
  have HP:=Hq (show nP F T=false by simp[nP,hft])
  clear h1 h2
  subst hft
  go_in
  go_wp2_with (first|(go_at_call_of 128 F;refine(H1 _).mono ?_;rintro e w1 ⟨rfl,rfl⟩))
  go_ret
  exact⟨aD HP.symm,au w _⟩
 have HP:=Hq (show nP F T=true by simp[nP,h1,h2,hft]);have he:(F != T)=true:=by simp[hft]
 clear h1 h2;go_in
 go_wp2_with (first|(go_at_call_of 128 F;refine(H1 _).mono ?_;rintro e w1 ⟨rfl,rfl⟩)|(go_at_call_of 128 T;refine(H2 _).mono ?_;rintro e w1 ⟨rfl,rfl⟩))
 go_ret;exact⟨aD (by first|exact HP.symm|exact he.trans HP.symm),au w _⟩
theorem Nq (F T:Int) (k:ByteArray) (N:Int) (r:Bool) (w:World) (h:(nP F T&&keyOk k.data.toList&&fV N)=r):Calls prog 297 #[.agg #[.int .i64 F,.int .i64 T,.string k,.int .i64 N]] w (fF w (.bool r)):=by
 have HQ:=Hq h;clear h;cases hr:nP F T
 case' false=>
  have HP:=Hq (show(nP F T&&keyOk k.data.toList&&fV N)=false by simp[hr])
  have HR:=Hq (λw1=>wW F T false w1 hr)
  clear hr
  go_in
  go_wp2_with (first|(go_at_call 296;refine(HR _).mono ?_;rintro e w2 ⟨rfl,hb2⟩;have hA:=aJ (heap_alloc_new w _) hb2;have hB:=(au w _).trans (hb2.mono Aac);obtain⟨c0,c1,c2,c3⟩:=EY hA;have hz:=bH hA;clear hA hb2))
  go_ret
  exact⟨aD (HP.symm.trans HQ),hB⟩
 have HR:=Hq (λw1=>wW F T true w1 hr);cases hc0:keyOk k.data.toList
 case' false=>
  have HP:=Hq (show(nP F T&&keyOk k.data.toList&&fV N)=false by simp[hr,hc0])
  have CQ:=Hq (λw1=>iF k false w1 hc0)
  clear hr hc0
  go_in
  go_wp2_with (first|(go_at_call 296;refine(HR _).mono ?_;rintro e w2 ⟨rfl,hb2⟩;have hA:=aJ (heap_alloc_new w _) hb2;have hB:=(au w _).trans (hb2.mono Aac);obtain⟨c0,c1,c2,c3⟩:=EY hA;have hz:=bH hA;clear hA hb2)|(go_at_call_of 131 k;refine(CQ _).mono ?_;rintro e w1 ⟨rfl,rfl⟩))
  go_ret
  exact⟨aD (HP.symm.trans HQ),hB⟩
 have CQ:=Hq (λw1=>iF k true w1 hc0);cases hc1:fV N
 case' false=>
  have HP:=Hq (show(nP F T&&keyOk k.data.toList&&fV N)=false by simp[hr,hc0,hc1])
  have xE:=Hq (λw1=>aU N false w1 hc1)
  clear hr hc0 hc1
  go_in
  go_wp2_with (first|(go_at_call 296;refine(HR _).mono ?_;rintro e w2 ⟨rfl,hb2⟩;have hA:=aJ (heap_alloc_new w _) hb2;have hB:=(au w _).trans (hb2.mono Aac);obtain⟨c0,c1,c2,c3⟩:=EY hA;have hz:=bH hA;clear hA hb2)|(go_at_call_of 131 k;refine(CQ _).mono ?_;rintro e w1 ⟨rfl,rfl⟩)|(go_at_call_of 54 N;refine(xE _).mono ?_;rintro e w1 ⟨rfl,rfl⟩))
  go_ret
  exact⟨aD (HP.symm.trans HQ),hB⟩
 have xE:=Hq (λw1=>aU N true w1 hc1);have HP:=Hq (show(nP F T&&keyOk k.data.toList&&fV N)=true by simp[hr,hc0,hc1]);clear hr hc0 hc1;go_in
 go_wp2_with (first|(go_at_call 296;refine(HR _).mono ?_;rintro e w2 ⟨rfl,hb2⟩;have hA:=aJ (heap_alloc_new w _) hb2;have hB:=(au w _).trans (hb2.mono Aac);obtain⟨c0,c1,c2,c3⟩:=EY hA;have hz:=bH hA;clear hA hb2)|(go_at_call_of 131 k;refine(CQ _).mono ?_;rintro e w1 ⟨rfl,rfl⟩)|(go_at_call_of 54 N;refine(xE _).mono ?_;rintro e w1 ⟨rfl,rfl⟩))
 exact aaP
theorem aii (F T I L:Int) (k:ByteArray) (N:Int) (r:Bool) (w:World) (h:(nP F T&&fV I&&decide (1<=L)&&decide (L<=I)&&keyOk k.data.toList&&fV N)=r):Calls prog 298 #[.agg #[.int .i64 F,.int .i64 T,.int .i64 I,.int .i64 L,.string k,.int .i64 N]] w (fF w (.bool r)):=by
 have HQ:=Hq h;clear h;cases hr:nP F T
 case' false=>
  have HP:=Hq (show(nP F T&&fV I&&decide (1<=L)&&decide (L<=I)&&keyOk k.data.toList&&fV N)=false by simp[hr])
  have HR:=Hq (λw1=>wW F T false w1 hr)
  clear hr
  go_in
  go_wp2_with (first|(go_at_call 296;refine(HR _).mono ?_;rintro e w2 ⟨rfl,hb2⟩;have hA:=aJ (heap_alloc_new w _) hb2;have hB:=(au w _).trans (hb2.mono Aac);obtain⟨c0,c1,c2,c3,c4,c5⟩:=yh hA;have hz:=bH hA;clear hA hb2))
  go_ret
  exact⟨aD (HP.symm.trans HQ),hB⟩
 have HR:=Hq (λw1=>wW F T true w1 hr);cases hc0:fV I
 case' false=>
  have HP:=Hq (show(nP F T&&fV I&&decide (1<=L)&&decide (L<=I)&&keyOk k.data.toList&&fV N)=false by simp[hr,hc0])
  have CQ:=Hq (λw1=>aU I false w1 hc0)
  clear hr hc0
  go_in
  go_wp2_with (first|(go_at_call 296;refine(HR _).mono ?_;rintro e w2 ⟨rfl,hb2⟩;have hA:=aJ (heap_alloc_new w _) hb2;have hB:=(au w _).trans (hb2.mono Aac);obtain⟨c0,c1,c2,c3,c4,c5⟩:=yh hA;have hz:=bH hA;clear hA hb2)|(go_at_call_of 54 I;refine(CQ _).mono ?_;rintro e w1 ⟨rfl,rfl⟩))
  go_ret
  exact⟨aD (HP.symm.trans HQ),hB⟩
 have CQ:=Hq (λw1=>aU I true w1 hc0);by_cases hd1:1<=L
 case' neg=>
  have HP:=Hq (show(nP F T&&fV I&&decide (1<=L)&&decide (L<=I)&&keyOk k.data.toList&&fV N)=false by simp[hr,hc0,hd1])
  clear hr hc0
  go_in
  go_wp2_with (first|(go_at_call 296;refine(HR _).mono ?_;rintro e w2 ⟨rfl,hb2⟩;have hA:=aJ (heap_alloc_new w _) hb2;have hB:=(au w _).trans (hb2.mono Aac);obtain⟨c0,c1,c2,c3,c4,c5⟩:=yh hA;have hz:=bH hA;clear hA hb2)|(go_at_call_of 54 I;refine(CQ _).mono ?_;rintro e w1 ⟨rfl,rfl⟩))
  go_ret
  exact⟨aD (HP.symm.trans HQ),hB⟩
 by_cases hd2:L<=I
 case' neg=>
  have HP:=Hq (show(nP F T&&fV I&&decide (1<=L)&&decide (L<=I)&&keyOk k.data.toList&&fV N)=false by simp[hr,hc0,hd1,hd2])
  clear hr hc0
  go_in
  go_wp2_with (first|(go_at_call 296;refine(HR _).mono ?_;rintro e w2 ⟨rfl,hb2⟩;have hA:=aJ (heap_alloc_new w _) hb2;have hB:=(au w _).trans (hb2.mono Aac);obtain⟨c0,c1,c2,c3,c4,c5⟩:=yh hA;have hz:=bH hA;clear hA hb2)|(go_at_call_of 54 I;refine(CQ _).mono ?_;rintro e w1 ⟨rfl,rfl⟩))
  go_ret
  exact⟨aD (HP.symm.trans HQ),hB⟩
 cases hc1:keyOk k.data.toList
 case' false=>
  have HP:=Hq (show(nP F T&&fV I&&decide (1<=L)&&decide (L<=I)&&keyOk k.data.toList&&fV N)=false by simp[hr,hc0,hd1,hd2,hc1])
  have xE:=Hq (λw1=>iF k false w1 hc1)
  clear hr hc0 hc1
  go_in
  go_wp2_with (first|(go_at_call 296;refine(HR _).mono ?_;rintro e w2 ⟨rfl,hb2⟩;have hA:=aJ (heap_alloc_new w _) hb2;have hB:=(au w _).trans (hb2.mono Aac);obtain⟨c0,c1,c2,c3,c4,c5⟩:=yh hA;have hz:=bH hA;clear hA hb2)|(go_at_call_of 54 I;refine(CQ _).mono ?_;rintro e w1 ⟨rfl,rfl⟩)|(go_at_call_of 131 k;refine(xE _).mono ?_;rintro e w1 ⟨rfl,rfl⟩))
  go_ret
  exact⟨aD (HP.symm.trans HQ),hB⟩
 have xE:=Hq (λw1=>iF k true w1 hc1);cases hc2:fV N
 case' false=>
  have HP:=Hq (show(nP F T&&fV I&&decide (1<=L)&&decide (L<=I)&&keyOk k.data.toList&&fV N)=false by simp[hr,hc0,hd1,hd2,hc1,hc2])
  have oI:=Hq (λw1=>aU N false w1 hc2)
  clear hr hc0 hc1 hc2
  go_in
  go_wp2_with (first|(go_at_call 296;refine(HR _).mono ?_;rintro e w2 ⟨rfl,hb2⟩;have hA:=aJ (heap_alloc_new w _) hb2;have hB:=(au w _).trans (hb2.mono Aac);obtain⟨c0,c1,c2,c3,c4,c5⟩:=yh hA;have hz:=bH hA;clear hA hb2)|(go_at_call_of 54 I;refine(CQ _).mono ?_;rintro e w1 ⟨rfl,rfl⟩)|(go_at_call_of 131 k;refine(xE _).mono ?_;rintro e w1 ⟨rfl,rfl⟩)|(go_at_call_of 54 N;refine(oI _).mono ?_;rintro e w1 ⟨rfl,rfl⟩))
  go_ret
  exact⟨aD (HP.symm.trans HQ),hB⟩
 have oI:=Hq (λw1=>aU N true w1 hc2);have HP:=Hq (show(nP F T&&fV I&&decide (1<=L)&&decide (L<=I)&&keyOk k.data.toList&&fV N)=true by simp[hr,hc0,hd1,hd2,hc1,hc2]);clear hr hc0 hc1 hc2;go_in
 go_wp2_with (first|(go_at_call 296;refine(HR _).mono ?_;rintro e w2 ⟨rfl,hb2⟩;have hA:=aJ (heap_alloc_new w _) hb2;have hB:=(au w _).trans (hb2.mono Aac);obtain⟨c0,c1,c2,c3,c4,c5⟩:=yh hA;have hz:=bH hA;clear hA hb2)|(go_at_call_of 54 I;refine(CQ _).mono ?_;rintro e w1 ⟨rfl,rfl⟩)|(go_at_call_of 131 k;refine(xE _).mono ?_;rintro e w1 ⟨rfl,rfl⟩)|(go_at_call_of 54 N;refine(oI _).mono ?_;rintro e w1 ⟨rfl,rfl⟩))
 exact aaP
theorem OL (F T I:Int) (r:Bool) (w:World) (h:(nP F T&&fV I)=r):Calls prog 299 #[.agg #[.int .i64 F,.int .i64 T,.int .i64 I]] w (fF w (.bool r)):=by
 have HQ:=Hq h;clear h;cases hr:nP F T
 case' false=>
  have HP:=Hq (show(nP F T&&fV I)=false by simp[hr])
  have HR:=Hq (λw1=>wW F T false w1 hr)
  clear hr
  go_in
  go_wp2_with (first|(go_at_call 296;refine(HR _).mono ?_;rintro e w2 ⟨rfl,hb2⟩;have hA:=aJ (heap_alloc_new w _) hb2;have hB:=(au w _).trans (hb2.mono Aac);obtain⟨c0,c1,c2⟩:=cells3 hA;have hz:=bH hA;clear hA hb2))
  go_ret
  exact⟨aD (HP.symm.trans HQ),hB⟩
 have HR:=Hq (λw1=>wW F T true w1 hr);cases hc0:fV I
 case' false=>
  have HP:=Hq (show(nP F T&&fV I)=false by simp[hr,hc0])
  have CQ:=Hq (λw1=>aU I false w1 hc0)
  clear hr hc0
  go_in
  go_wp2_with (first|(go_at_call 296;refine(HR _).mono ?_;rintro e w2 ⟨rfl,hb2⟩;have hA:=aJ (heap_alloc_new w _) hb2;have hB:=(au w _).trans (hb2.mono Aac);obtain⟨c0,c1,c2⟩:=cells3 hA;have hz:=bH hA;clear hA hb2)|(go_at_call_of 54 I;refine(CQ _).mono ?_;rintro e w1 ⟨rfl,rfl⟩))
  go_ret
  exact⟨aD (HP.symm.trans HQ),hB⟩
 have CQ:=Hq (λw1=>aU I true w1 hc0);have HP:=Hq (show(nP F T&&fV I)=true by simp[hr,hc0]);clear hr hc0;go_in
 go_wp2_with (first|(go_at_call 296;refine(HR _).mono ?_;rintro e w2 ⟨rfl,hb2⟩;have hA:=aJ (heap_alloc_new w _) hb2;have hB:=(au w _).trans (hb2.mono Aac);obtain⟨c0,c1,c2⟩:=cells3 hA;have hz:=bH hA;clear hA hb2)|(go_at_call_of 54 I;refine(CQ _).mono ?_;rintro e w1 ⟨rfl,rfl⟩))
 exact aaP
theorem dQ {w:World} (h:w.heap[g]?=some (.cells #[a0,a1,a2,a3,a4,a5,a6] t (0,0))):
 (w.cell? ⟨g,0,none⟩=some a0/\w.cell? ⟨g,1,none⟩=some a1/\w.cell? ⟨g,2,none⟩=some a2/\w.cell? ⟨g,3,none⟩=some a3/\w.cell? ⟨g,4,none⟩=some a4/\w.cell? ⟨g,5,none⟩=some a5/\w.cell? ⟨g,6,none⟩=some a6)/\
  (w.frozen? ⟨g,0,none⟩=false/\w.frozen? ⟨g,1,none⟩=false/\w.frozen? ⟨g,2,none⟩=false/\w.frozen? ⟨g,3,none⟩=false/\w.frozen? ⟨g,4,none⟩=false/\w.frozen? ⟨g,5,none⟩=false/\w.frozen? ⟨g,6,none⟩=false):=by
 have hf:∀i,w.frozen? ⟨g,i,none⟩=false:=λi=>by unfold World.frozen?;rw [h];simp
 exact⟨uj h,hf 0,hf 1,hf 2,hf 3,hf 4,hf 5,hf 6⟩
theorem blk_set {w:World} {c:Nat} {cs:Array Value} (h:w.heap[c]?=some (.cells cs t (0,0))) (i:Nat) (v:Value):(w.setCell ⟨c,i,none⟩ v).heap[c]?=some (.cells (cs.setIfInBounds i v) t (0,0)):=by
 exact WG
theorem one_other {w:World} {g' i:Nat} {v:Value} {o:Option Obj} (h:w.heap[g']?=o) (hne:g'≠g):(w.setCell ⟨g,i,none⟩ v).heap[g']?=o:=by rw [Below.heap_setCell _ _ _ _ hne,h]
theorem ou {w:World} {b0 b1 b2 b3 b4 b5 b6:Value} (h:w.heap[g]?=some (.cells #[a0,a1,a2,a3,a4,a5,a6] t (0,0))):
 (((((((w.setCell ⟨g,0,none⟩ b0).setCell ⟨g,1,none⟩ b1).setCell ⟨g,2,none⟩ b2).setCell ⟨g,3,none⟩ b3).setCell ⟨g,4,none⟩ b4).setCell ⟨g,5,none⟩ b5).setCell ⟨g,6,none⟩ b6).heap[g]?=some (.cells #[b0,b1,b2,b3,b4,b5,b6] t (0,0)):=by
 have h0:(w.setCell ⟨g,0,none⟩ b0).heap[g]?=some (.cells #[b0,a1,a2,a3,a4,a5,a6] t (0,0)):=blk_set h 0 b0;have h1:((w.setCell ⟨g,0,none⟩ b0).setCell ⟨g,1,none⟩ b1).heap[g]?=some (.cells #[b0,b1,a2,a3,a4,a5,a6] t (0,0)):=blk_set h0 1 b1;have h2:(((w.setCell ⟨g,0,none⟩ b0).setCell ⟨g,1,none⟩ b1).setCell ⟨g,2,none⟩ b2).heap[g]?=some (.cells #[b0,b1,b2,a3,a4,a5,a6] t (0,0)):=blk_set h1 2 b2;have h3:((((w.setCell ⟨g,0,none⟩ b0).setCell ⟨g,1,none⟩ b1).setCell ⟨g,2,none⟩ b2).setCell ⟨g,3,none⟩ b3).heap[g]?=some (.cells #[b0,b1,b2,b3,a4,a5,a6] t (0,0)):=blk_set h2 3 b3;have h4:(((((w.setCell ⟨g,0,none⟩ b0).setCell ⟨g,1,none⟩ b1).setCell ⟨g,2,none⟩ b2).setCell ⟨g,3,none⟩ b3).setCell ⟨g,4,none⟩ b4).heap[g]?=some (.cells #[b0,b1,b2,b3,b4,a5,a6] t (0,0)):=blk_set h3 4 b4;have h5:((((((w.setCell ⟨g,0,none⟩ b0).setCell ⟨g,1,none⟩ b1).setCell ⟨g,2,none⟩ b2).setCell ⟨g,3,none⟩ b3).setCell ⟨g,4,none⟩ b4).setCell ⟨g,5,none⟩ b5).heap[g]?=some (.cells #[b0,b1,b2,b3,b4,b5,a6] t (0,0)):=blk_set h4 5 b5;have h6:(((((((w.setCell ⟨g,0,none⟩ b0).setCell ⟨g,1,none⟩ b1).setCell ⟨g,2,none⟩ b2).setCell ⟨g,3,none⟩ b3).setCell ⟨g,4,none⟩ b4).setCell ⟨g,5,none⟩ b5).setCell ⟨g,6,none⟩ b6).heap[g]?=some (.cells #[b0,b1,b2,b3,b4,b5,b6] t (0,0)):=blk_set h5 6 b6;exact h6
theorem mG {a w:World} {B:Nat} {b0 b1 b2 b3 b4 b5 b6:Value} (h:Below B a w) (hg:B<=g):
 Below B a (((((((w.setCell ⟨g,0,none⟩ b0).setCell ⟨g,1,none⟩ b1).setCell ⟨g,2,none⟩ b2).setCell ⟨g,3,none⟩ b3).setCell ⟨g,4,none⟩ b4).setCell ⟨g,5,none⟩ b5).setCell ⟨g,6,none⟩ b6):=
 ((((((h.setCell (p:=⟨g,0,none⟩) hg b0).setCell (p:=⟨g,1,none⟩) hg b1).setCell (p:=⟨g,2,none⟩) hg b2).setCell (p:=⟨g,3,none⟩) hg b3).setCell (p:=⟨g,4,none⟩) hg b4).setCell (p:=⟨g,5,none⟩) hg b5).setCell (p:=⟨g,6,none⟩) hg b6
theorem bodyPost_at {P:Program} {fn:Func} {Q:Ending->World->Prop} {x:Exit} {act:Act} {W:World} (h:∀W',W'=W->bodyPost P fn Q x act W'):bodyPost P fn Q x act W:=h W rfl
theorem K8:(Instr.typeAssert (.iface 154 v) 105 154 true).run prog w= .ok (.tuple #[v,.bool true]) w:=Aab
theorem OO:(Instr.typeAssert (.iface 156 v) 105 154 true).run prog w= .ok (.tuple #[.agg #[.int .i64 0,.int .i64 0,.string ⟨#[]⟩,.int .i64 0],.bool false]) w:=Aab
theorem Sz:(Instr.typeAssert (.iface 156 v) 105 156 true).run prog w= .ok (.tuple #[v,.bool true]) w:=Aab
theorem OM:(Instr.typeAssert (.iface 158 v) 105 154 true).run prog w= .ok (.tuple #[.agg #[.int .i64 0,.int .i64 0,.string ⟨#[]⟩,.int .i64 0],.bool false]) w:=Aab
theorem Sy:(Instr.typeAssert (.iface 158 v) 105 156 true).run prog w= .ok (.tuple #[.agg #[.int .i64 0,.int .i64 0,.int .i64 0,.int .i64 0,.string ⟨#[]⟩,.int .i64 0],.bool false]) w:=Aab
theorem Sw:(Instr.typeAssert (.iface 158 v) 105 158 true).run prog w= .ok (.tuple #[v,.bool true]) w:=Aab
theorem yE (F T:Int) (k:ByteArray) (N:Int) (w:World):Calls prog 135 #[.iface 154 (.agg #[.int .i64 F,.int .i64 T,.string k,.int .i64 N])] w (fF w (qg ⟨0,F,T,0,0,k,N⟩)):=by
 have f0:=K8 (.agg #[.int .i64 F,.int .i64 T,.string k,.int .i64 N]);go_in
 go_wp2_with fail;refine bodyPost_ret (v:= .agg (cK 0 F T 0 0 k N)) Adv rfl ⟨rfl,?_⟩;exact aaJ
theorem XI (F T I L:Int) (k:ByteArray) (N:Int) (w:World):Calls prog 135 #[.iface 156 (.agg #[.int .i64 F,.int .i64 T,.int .i64 I,.int .i64 L,.string k,.int .i64 N])] w (fF w (qg ⟨1,F,T,I,L,k,N⟩)):=by
 have f0:=OO (.agg #[.int .i64 F,.int .i64 T,.int .i64 I,.int .i64 L,.string k,.int .i64 N]);have f1:=Sz (.agg #[.int .i64 F,.int .i64 T,.int .i64 I,.int .i64 L,.string k,.int .i64 N]);go_in
 go_wp2_with fail;refine bodyPost_ret (v:= .agg (cK 1 F T I L k N)) Adv rfl ⟨rfl,?_⟩;exact aaJ
theorem wU (F T I:Int) (w:World):Calls prog 135 #[.iface 158 (.agg #[.int .i64 F,.int .i64 T,.int .i64 I])] w (fF w (qg ⟨2,F,T,I,0,ByteArray.empty,0⟩)):=by
 have f0:=OM (.agg #[.int .i64 F,.int .i64 T,.int .i64 I]);have f1:=Sy (.agg #[.int .i64 F,.int .i64 T,.int .i64 I]);have f2:=Sw (.agg #[.int .i64 F,.int .i64 T,.int .i64 I]);go_in
 go_wp2_with fail;refine bodyPost_ret (v:= .agg (cK 2 F T I 0 ByteArray.empty 0)) Adv rfl ⟨rfl,?_⟩;exact aaJ
def kb (K:Int):ByteArray:=⟨[UInt8.ofNat K.toNat].toArray⟩
def jA (m:Mg):ByteArray:=kb m.K++lZ m.F++lZ m.T++lZ m.I++lZ m.L++jy m.k++lZ m.N
def fA (m:Mg):ByteArray:=if bY m=true then jA m else ByteArray.empty
theorem qO (h:bY m=true):fA m=jA m:=by unfold fA;rw [if_pos h]
theorem tu (h:bY m=false):fA m=ByteArray.empty:=by unfold fA;rw [if_neg Abu]
theorem aes (h:bY m=true):0<=m.K/\m.K<=2:=by
 unfold bY at h;simp only[Bool.and_eq_true] at h;obtain⟨_,h⟩:=h;exact ag3
theorem Md (K:Int):(kb K).size=1:=rfl
theorem WW (w:World) (g:Nat) (K:Int) (h:0<=K/\K<=2) (hc:w.cell? ⟨g,0,none⟩=some (.int .u8 K)):(convert 22 9 (.slice (some ⟨g,0,none⟩) 1 1)).run prog w= .ok (.string (kb K)) w:=by
 exact axz
def tF (s:ByteArray) (i:Int):Int:=aeC (iD s i)
def iV (s:ByteArray) (i:Int):Int:=acv (iD s i) i
def jJ (s:ByteArray) (i:Int):ByteArray:=YA (textOf s i.toNat (iD s i))
def iW (s:ByteArray) (i:Int):Int:=Ra (textOf s i.toNat (iD s i))
theorem mE (h:0<=iV s i):0<=i/\i<=iV s i/\iV s i<=s.size/\(lZ (tF s i)).data.toList=(s.data.toList.take (iV s i).toNat).drop i.toNat:=by
 unfold iV tF at *;cases hG:iD s i with
 |none=>rw [hG] at h;simp[acv] at h
 |some p=>
  obtain⟨n,c⟩:=p
  obtain⟨k,rfl,hk,hc,hn,hput⟩:=F8 hG
  simp only[acv,aeC]
  refine⟨Aaa,Aaa,Aaa,?_⟩
  rw [<-ByteArray.toList_eq,hput,Lib.extract_toList,List.drop_take]
  simp only[Int.toNat_natCast]
  rfl
theorem iE (h:0<=iW s i):0<=i/\i<=iW s i/\iW s i<=s.size/\(jJ s i).size<=1000/\(jy (jJ s i)).data.toList=(s.data.toList.take (iW s i).toNat).drop i.toNat:=by
 unfold iW jJ at *;cases hG:textOf s i.toNat (iD s i) with
 |none=>rw [hG] at h;simp[Ra] at h
 |some p=>
  obtain⟨t,e⟩:=p
  obtain⟨k,rfl,hk,hc,hn,hput⟩:=Yf hG
  simp only[Ra,YA]
  refine⟨Aaa,Aaa,Aaa,hn,?_⟩
  rw [<-ByteArray.toList_eq,hput,Lib.extract_toList,List.drop_take]
  simp only[Int.toNat_natCast]
def vB (s:ByteArray):Int:=iV s (iW s (iV s (iV s (iV s (iV s 1)))))
def cand (s:ByteArray):Mg:=
 ⟨(s.data.toList.headD 0).toNat,tF s 1,tF s (iV s 1),tF s (iV s (iV s 1)),tF s (iV s (iV s (iV s 1))),jJ s (iV s (iV s (iV s (iV s 1)))),tF s (iW s (iV s (iV s (iV s (iV s 1)))))⟩
theorem oz (l:List UInt8) (i j:Nat) (h:i<=j):l.take i++(l.take j).drop i=l.take j:=by
 have h2:(l.take j).take i=l.take i:=by rw [List.take_take,Nat.min_eq_left h]
 rw [<-h2,List.take_append_drop]
theorem EX (hs:0 < s.size) (h:0<=vB s):vB s<=s.size/\(jA (cand s)).data.toList=s.data.toList.take (vB s).toNat:=by
 unfold vB at h;obtain⟨g5,l6,e6,q6⟩:=mE h;obtain⟨g4,l5,e5,_,q5⟩:=iE g5;obtain⟨g3,l4,e4,q4⟩:=mE g4;obtain⟨g2,l3,e3,q3⟩:=mE g3;obtain⟨g1,l2,e2,q2⟩:=mE g2;obtain⟨g0,l1,e1,q1⟩:=mE g1;refine⟨e6,?_⟩;unfold jA cand vB;simp only[ByteArray.data_append,Array.toList_append];rw [q1,q2,q3,q4,q5,q6]
 have q0:(kb ((s.data.toList.headD 0).toNat:Int)).data.toList=s.data.toList.take (1:Int).toNat:=by
  exact ahs
 rw [q0,oz _ _ _ Aaa,oz _ _ _ Aaa,oz _ _ _ Aaa,oz _ _ _ Aaa,oz _ _ _ Aaa,oz _ _ _ Aaa]
def mg0:Mg:=⟨0,0,0,0,0,ByteArray.empty,0⟩
def jF (s:ByteArray):Bool:=decide (0 < s.size)&&decide (vB s=s.size)&&bY (cand s)
def lM (s:ByteArray):Mg:=if jF s=true then cand s else mg0
theorem Fu (hs:0 < s.size):jF s=(decide (0<=vB s)&&decide (fA (cand s)=s)):=by
 rw [Bool.eq_iff_iff];unfold jF;simp only[Bool.and_eq_true,decide_eq_true_iff];constructor
 .rintro⟨⟨_,h1⟩,h2⟩;have h0:0<=vB s:=Aaa
  refine⟨h0,?_⟩;rw [qO h2];apply ByteArray.ext
  apply Array.ext'
  rw [(EX hs h0).2,h1,Int.toNat_natCast,List.take_of_length_le (by rw [aH];exact Nat.le_refl _)]
 .rintro⟨h0,h1⟩;obtain⟨hl,hb⟩:=EX hs h0;cases hm:bY (cand s) with
  |false=>
   rw [tu hm] at h1
   rw [<-h1] at hs
   exact absurd hs Aae
  |true=>
   rw [qO hm] at h1
   refine⟨⟨hs,?_⟩,rfl⟩
   rw [h1] at hb
   have:=congrArg List.length hb
   rw [List.length_take,aH] at this
   omega
def fq (o:fP):ByteArray:=kb o.K++lZ o.no++jy o.k++lZ o.n++jy (fA o.m)
def iw (o:fP):ByteArray:=if bq o=true then fq o else ByteArray.empty
theorem qz (h:bq o=true):iw o=fq o:=by unfold iw;rw [if_pos h]
theorem F7 (h:bq o=false):iw o=ByteArray.empty:=by unfold iw;rw [if_neg Abu]
theorem J5 (h:bq o=true):0<=o.K/\o.K<=6:=by
 exact ah2
theorem wC (o:fP):0 < (fq o).size:=by
 unfold fq;exact JG
theorem Ub (o:fP):(fq o).size<=2025:=by
 unfold fq;have s1:=fu o.no;have s2:=oh o.k;have s3:=fu o.n;have s4:=oh (fA o.m);exact JG
theorem SI (w:World) (g:Nat) (K:Int) (h:0<=K/\K<=6) (hc:w.cell? ⟨g,0,none⟩=some (.int .u8 K)):(convert 22 9 (.slice (some ⟨g,0,none⟩) 1 1)).run prog w= .ok (.string (kb K)) w:=by
 exact axz
theorem UA (K:Int) (h0:0<=K) (h6:K<=6):IntKind.u8.wrap K=K:=by
 have h3:K=0\/K=1\/K=2\/K=3\/K=4\/K=5\/K=6:=Aaa
 rcases h3 with rfl|rfl|rfl|rfl|rfl|rfl|rfl<;>rfl
theorem Vr {w:World} {v0 v1 v2 v3 v4 v5 v6 v7 v8 v9 v10:Value} (h:w.heap[g]?=some (.cells #[v0,v1,v2,v3,v4,v5,v6,v7,v8,v9,v10] t (0,0))):
 w.cell? ⟨g,0,none⟩=some v0/\w.cell? ⟨g,1,none⟩=some v1/\w.cell? ⟨g,2,none⟩=some v2/\w.cell? ⟨g,3,none⟩=some v3/\w.cell? ⟨g,4,none⟩=some v4/\w.cell? ⟨g,5,none⟩=some v5/\w.cell? ⟨g,6,none⟩=some v6/\w.cell? ⟨g,7,none⟩=some v7/\w.cell? ⟨g,8,none⟩=some v8/\w.cell? ⟨g,9,none⟩=some v9/\w.cell? ⟨g,10,none⟩=some v10:=by
 exact ag2
def J8 (s:ByteArray):Int:=iV s (iW s (iV s 1))
def Ah (s:ByteArray):ByteArray:=jJ s (J8 s)
def J4 (s:ByteArray):Int:=iW s (J8 s)
def opC (s:ByteArray):fP:=⟨(s.data.toList.headD 0).toNat,tF s 1,jJ s (iV s 1),tF s (iW s (iV s 1)),lM (Ah s)⟩
def pW (s:ByteArray):Bool:=decide ((Ah s).size=0)||jF (Ah s)
theorem Mi:bY mg0=false:=Aae
theorem Kn (h:s.size=0):s=ByteArray.empty:=eq_empty s h
theorem Cb {b:ByteArray} (h:b.size=0):lM b=mg0/\jF b=false:=by
 have ho:jF b=false:=by unfold jF;rw [decide_eq_false Aaa];rfl
 refine⟨?_,ho⟩;unfold lM;rw [ho,if_neg Aac]
theorem WR (h:pW s=true):fA (lM (Ah s))=Ah s:=by
 by_cases h0:(Ah s).size=0
 .rw [(Cb h0).1,tu Mi,Kn h0]
 .unfold pW at h;rw [decide_eq_false h0,Bool.false_or] at h;have h2:=Fu (s:=Ah s) Aaa;rw [h] at h2;unfold lM;rw [if_pos h];have h3:=h2.symm;simp only[Bool.and_eq_true,decide_eq_true_iff] at h3;exact h3.2
theorem J3 (hs:0 < s.size) (h:0<=J4 s) (hb:pW s=true):J4 s<=s.size/\(fq (opC s)).data.toList=s.data.toList.take (J4 s).toNat:=by
 have hq:=WR hb;unfold J4 Ah at *;obtain⟨g3,l4,e4,_,q4⟩:=iE h;unfold J8 at g3 l4 e4 q4 hq h ⊢;obtain⟨g2,l3,e3,q3⟩:=mE g3;obtain⟨g1,l2,e2,_,q2⟩:=iE g2;obtain⟨g0,l1,e1,q1⟩:=mE g1;refine⟨e4,?_⟩;unfold fq opC Ah J8;simp only[ByteArray.data_append,Array.toList_append];rw [hq,q1,q2,q3,q4]
 have q0:(kb ((s.data.toList.headD 0).toNat:Int)).data.toList=s.data.toList.take (1:Int).toNat:=by
  exact ahs
 rw [q0,oz _ _ _ Aaa,oz _ _ _ Aaa,oz _ _ _ Aaa,oz _ _ _ Aaa]
def op0:fP:=⟨0,0,ByteArray.empty,0,mg0⟩
def jM (s:ByteArray):Bool:=decide (0 < s.size)&&decide (J4 s=s.size)&&pW s&&bq (opC s)
def getOp (s:ByteArray):fP:=if jM s=true then opC s else op0
theorem JO (hs:0 < s.size):jM s=(decide (0<=J4 s)&&pW s&&decide (iw (opC s)=s)):=by
 rw [Bool.eq_iff_iff];unfold jM;simp only[Bool.and_eq_true,decide_eq_true_iff];constructor
 .rintro⟨⟨⟨_,h1⟩,hb⟩,h2⟩;have h0:0<=J4 s:=Aaa
  refine⟨⟨h0,hb⟩,?_⟩;rw [qz h2];apply ByteArray.ext
  apply Array.ext'
  rw [(J3 hs h0 hb).2,h1,Int.toNat_natCast,List.take_of_length_le (by rw [aH];exact Nat.le_refl _)]
 .rintro⟨⟨h0,hb⟩,h1⟩;obtain⟨hl,hq⟩:=J3 hs h0 hb;cases hm:bq (opC s) with
  |false=>
   rw [F7 hm] at h1
   rw [<-h1] at hs
   exact absurd hs Aae
  |true=>
   rw [qz hm] at h1
   refine⟨⟨⟨hs,?_⟩,hb⟩,rfl⟩
   rw [h1] at hq
   have:=congrArg List.length hq
   rw [List.length_take,aH] at this
   omega
theorem tN (s:ByteArray) (i:Int):(jJ s i).size<=1000:=by
 exact axT
theorem acy (s:ByteArray):(lM s).k.size<=1000:=by
 unfold lM;split
 .exact tN _ _
 .decide
def gW (s:ByteArray):Nat->Int
 |0=>1
 |j+1=>iV s (gW s j)
def numsL (s:ByteArray) (j:Nat):List Value:=(List.range j).map λi=> .int .i64 (tF s (gW s i))
theorem Ua (s:ByteArray) (j:Nat):numsL s (j+1)=numsL s j++[.int .i64 (tF s (gW s j))]:=by unfold numsL;rw [List.range_succ,List.map_append];rfl
theorem abP:(prog.info? 3).map (λi=>(i.zero,i.size,i.bytes))=some (some (.int .i64 0),1,8):=Aab
theorem own_below {w w':World} {base size n:Nat} {e:TypeId} {v:Value} {xs:List Value} (h:w.ownsRow base e size v n xs) (hb:aY w w'):w'.ownsRow base e size v n xs:=by
 refine h.kept (row:=none) ⟨hb.os,hb.tape,hb.output,hb.size,λk hk _=>hb.block k hk⟩ ?_;cases hv:v.ownBlock with
 |none=>exact .inl rfl
 |some k=>right;simp
theorem Nf (s:ByteArray) (i:Int) (hs:s.size<=maxLen) (w:World):Calls prog 181 #[.string s,.int .i64 i] w (fF w (.tuple #[.int .i64 (tF s i),.int .i64 (iV s i)])):=by
 have h:=Dg s i w hs;rw [Fv] at h;exact h
theorem Nh (s:ByteArray) (i:Int) (hs:s.size<=maxLen) (w:World):Calls prog 139 #[.string s,.int .i64 i] w (fF w (.tuple #[.string (jJ s i),.int .i64 (iW s i)])):=by
 have h:=QS s i w hs;rw [Dh] at h;exact h
theorem aew (s:ByteArray) (hs:s.size<=maxLen) (w:World):Calls prog 215 #[.string s,.int .i64 1,.int .i64 4] w λe w'=>
 ∃g cap,e= .returned (.tuple #[.slice (some ⟨g,0,none⟩) 4 cap,.int .i64 (gW s 4)])/\g < w'.heap.size/\(w'.cell? ⟨g,0,none⟩=some (.int .i64 (tF s (gW s 0)))/\w'.cell? ⟨g,1,none⟩=some (.int .i64 (tF s (gW s 1)))/\w'.cell? ⟨g,2,none⟩=some (.int .i64 (tF s (gW s 2)))/\w'.cell? ⟨g,3,none⟩=some (.int .i64 (tF s (gW s 3))))/\aY w w':=by
 obtain⟨i0,hi,hz0,hz1,hz2⟩:=info_parts abP;have HG:=Hq (λi w1=>Nf s i hs w1);clear hs;go_in
 go_wp2_with fail;go_loopw [8,9,10] (λv a k wr=>∃j,j<=4/\k= .int .i64 (j:Nat)/\a= .int .i64 (gW s j)/\wr.ownsRow w.heap.size 3 1 v j (numsL s j)/\aY w wr) (λ_ _ k _=>4 - (intOf k).toNat)
 case atStart=>exact⟨0,Aaa,rfl,rfl,World.ownsRow_lit _ #[] 0 (Nat.le_refl _) Aae rfl,(Below.refl _ _).alloc (Nat.le_refl _) _⟩
 case round=>
  obtain⟨j,hj,rfl,rfl,hown,hbel⟩:=hrel;by_cases hlt:j < 4
  .have HN:=Hq (Ua s j);have HP:=Hq (show gW s (j+1)=iV s (gW s j) from rfl);have hg:=λw1=>HG (gW s j) w1
   generalize tF s (gW s j)=x at *;generalize iV s (gW s j)=a' at *;generalize gW s j=a at *;have Dw:=Hq hg;clear hg;go_wp2_with fail;refine(Dw _).mono ?_;rintro e w5 ⟨rfl,hb5⟩;have hown5:=own_below hown hb5;have abo:=hbel.trans (hb5.mono hbel.size);clear hb5 hown hbel;go_wp2_with (at_builtin;refine wpList_append_own _ rfl _ _ 24 rfl w.heap.size 3 i0 (.int .i64 0) 1 8 underlying24 hi hz0 hz1 hz2 rfl Aae _ _ _ rfl (hown5.alloc _) ⟨w5.heap.size,0,none⟩ 1 1 [.int .i64 x] rfl rfl ?c1 ?c2 ?c3 ?c4 ?c5 ?_)
   case c1=>exact cell_one_new _ _ _
   case c2=>intro u hu;simp at hu;subst hu;rfl
   case c3=>unfold maxLen;omega
   case c4=>omega
   case c5=>have:=abo.size;simp;omega
   intro v' w6 hown' hgrow _;have Pf:=below_append abo hown5 hgrow;rw [<-ah HN] at hown';clear hgrow hown5 abo HN;go_wp2_with fail;go_roundw
   case rel=>exact⟨j+1,Aaa,Aai,Aaw,hown',Pf⟩
   case measure=>simp[intOf];omega
  .obtain rfl:j=4:=Aaa
   obtain⟨g,cap,rfl,_,_⟩:=World.ownsRow.form hown Aaa;have hc:=Hq (hown.cells (g:=g) rfl);have hlt:=(hown.lt g rfl).2;have HB:=Hq hbel;clear hown hbel;go_wp2_with fail;exact bodyPost_ret (v:= .tuple #[.slice (some ⟨g,0,none⟩) 4 cap,.int .i64 (gW s 4)]) (by simp[results,results215,go_sem]) rfl ⟨g,cap,rfl,hlt,⟨hc 0 _ rfl,hc 1 _ rfl,hc 2 _ rfl,hc 3 _ rfl⟩,HB⟩
def DV (s:ByteArray):Value:= .tuple #[qg (lM s),.bool (jF s)]
theorem Eo (h:jF s=false):DV s= .tuple #[.agg (cK 0 0 0 0 0 ⟨#[]⟩ 0),.bool false]:=by
 unfold DV lM;rw [h,if_neg Aac];rfl
theorem Lr (h:0 < s.size):s.data.toList.headD 0=s[0]:=by
 have hl:=aH s;rw [List.headD_eq_head?_getD,List.head?_eq_getElem?,List.getElem?_eq_getElem Aaa];rfl
def ig (s:ByteArray):Nat:=65536*(sums s.data.toList).2+(sums s.data.toList).1
theorem Ey (s:ByteArray):ig s < 4294967296:=by
 have:=sums_lt s.data.toList;unfold ig;omega
def four (n:Nat):List UInt8:=[UInt8.ofNat (n / 16777216),UInt8.ofNat (n / 65536 % 256),UInt8.ofNat (n / 256 % 256),UInt8.ofNat (n % 256)]
def iK (n:Nat):ByteArray:=⟨(four n).toArray⟩
theorem uW (n:Nat):(iK n).size=4:=rfl
theorem JK (w:World) (g n cap:Nat) (h:n < 4294967296) (c0:w.cell? ⟨g,0,none⟩=some (.int .u8 ((n:Int) / 16777216))) (c1:w.cell? ⟨g,1,none⟩=some (.int .u8 ((n:Int) / 65536 % 256))) (c2:w.cell? ⟨g,2,none⟩=some (.int .u8 ((n:Int) / 256 % 256))) (c3:w.cell? ⟨g,3,none⟩=some (.int .u8 ((n:Int) % 256))):
 (convert 22 9 (.slice (some ⟨g,0,none⟩) 4 cap)).run prog w= .ok (.string (iK n)) w:=by
 refine run_convert_bytes_back (P:=prog) w 22 9 5 ⟨g,0,none⟩ cap (four n) underlying22 underlying5 underlying9 ?_;intro j hj;have hj4:j < 4:=hj;have hcase:j=0\/j=1\/j=2\/j=3:=Aaa
 rcases hcase with rfl|rfl|rfl|rfl
 .show w.cell? ⟨g,0,none⟩=_
  rw [c0];simp only[four,List.getElem_cons_zero];rw [toNat_byte _ Aaa];rfl
 .show w.cell? ⟨g,1,none⟩=_
  rw [c1];simp only[four,List.getElem_cons_succ,List.getElem_cons_zero];rw [toNat_byte _ Aaa];rfl
 .show w.cell? ⟨g,2,none⟩=_
  rw [c2];simp only[four,List.getElem_cons_succ,List.getElem_cons_zero];rw [toNat_byte _ Aaa];rfl
 .show w.cell? ⟨g,3,none⟩=_
  rw [c3];simp only[four,List.getElem_cons_succ,List.getElem_cons_zero];rw [toNat_byte _ Aaa];rfl
theorem VB (n:Nat) (h:n < 4294967296) (w:World):Calls prog 141 #[.int .u32 n] w (fF w (.string (iK n))):=by
 have hcv:=JK (w.alloc (.cells #[.int .u8 ((n:Int) / 16777216),.int .u8 ((n:Int) / 65536 % 256),.int .u8 ((n:Int) / 256 % 256),.int .u8 ((n:Int) % 256)] 5)) w.heap.size n 4 h Aac Aac Aac Aac;go_in
 go_wp2_with fail;go_ret;exact⟨rfl,au w _⟩
theorem acX (s:ByteArray) (hs:s.size<=maxLen) (w:World):Calls prog 184 #[.string s] w λe w'=>∃g,e= .returned (.slice (some ⟨g,0,none⟩) 4 4)/\w.heap.size<=g/\w'.heap[g]?=some (.cells #[.int .u8 ((ig s:Int) / 16777216),.int .u8 ((ig s:Int) / 65536 % 256),.int .u8 ((ig s:Int) / 256 % 256),.int .u8 ((ig s:Int) % 256)] 5 (0,0))/\aY w w':=by
 have hn:=Ey s;have HC:=Hq (λw1=>LJ s w1 hs);have e:(65536*(sums s.data.toList).2+(sums s.data.toList).1:Int)=(ig s:Int):=by unfold ig;omega
 rw [e] at HC;clear e hs;generalize ig s=n at *;go_in
 go_wp2_with fail;refine(HC _).mono ?_;rintro e w1 ⟨rfl,rfl⟩;go_wp2_with fail;go_ret;exact⟨w.heap.size,rfl,Nat.le_refl _,heap_alloc_new w _,au w _⟩
end Go.Proofs.YtacgbldlonoaaaaGreatDoor
