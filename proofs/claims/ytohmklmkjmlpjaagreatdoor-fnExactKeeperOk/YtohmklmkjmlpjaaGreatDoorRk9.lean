/- Parts. -/
import Derived.Test.YtohmklmkjmlpjaaGreatDoorRk4
namespace Go.Proofs.YtohmklmkjmlpjaaGreatDoor
open Go.Proofs.Tryz
set_option maxHeartbeats 4000000
set_option maxRecDepth 100000
open Go.RowKit
open Mth
variable (no:Int) (k:ByteArray) (n:Int) (m:Mg) (w:World) {g:Nat} {t:TypeId} {a0 a1 a2 a3 a4 a5 a6:Value} {o:Obj}
theorem dG {w:World} (h:w.heap[g]?=some o):g < w.heap.size:=by
 exact aaU
theorem aN {w w':World} (h:w.heap[g]?=some o) (hb:aI w w'):w'.heap[g]?=some o:=by
 rw [hb.block g (dG h)];exact h
theorem cells3 {w:World} (h:w.heap[g]?=some (.cells #[a0,a1,a2] t (0,0))):
 w.cell? ⟨g,0,none⟩=some a0/\w.cell? ⟨g,1,none⟩=some a1/\w.cell? ⟨g,2,none⟩=some a2:=by
 have hc:∀i,w.cell? ⟨g,i,none⟩=#[a0,a1,a2][i]?:=λi=>cell_of_row w g i _ t (0,0) h
 exact⟨hc 0,hc 1,hc 2⟩
theorem Kv {w:World} (h:w.heap[g]?=some (.cells #[a0,a1,a2,a3] t (0,0))):
 w.cell? ⟨g,0,none⟩=some a0/\w.cell? ⟨g,1,none⟩=some a1/\w.cell? ⟨g,2,none⟩=some a2/\w.cell? ⟨g,3,none⟩=some a3:=by
 have hc:∀i,w.cell? ⟨g,i,none⟩=#[a0,a1,a2,a3][i]?:=λi=>cell_of_row w g i _ t (0,0) h
 exact⟨hc 0,hc 1,hc 2,hc 3⟩
theorem Kw {w:World} (h:w.heap[g]?=some (.cells #[a0,a1,a2,a3,a4,a5] t (0,0))):
 w.cell? ⟨g,0,none⟩=some a0/\w.cell? ⟨g,1,none⟩=some a1/\w.cell? ⟨g,2,none⟩=some a2/\w.cell? ⟨g,3,none⟩=some a3/\w.cell? ⟨g,4,none⟩=some a4/\w.cell? ⟨g,5,none⟩=some a5:=by
 have hc:∀i,w.cell? ⟨g,i,none⟩=#[a0,a1,a2,a3,a4,a5][i]?:=λi=>cell_of_row w g i _ t (0,0) h
 exact⟨hc 0,hc 1,hc 2,hc 3,hc 4,hc 5⟩
theorem tF {w:World} (h:w.heap[g]?=some (.cells #[a0,a1,a2,a3,a4,a5,a6] t (0,0))):
 w.cell? ⟨g,0,none⟩=some a0/\w.cell? ⟨g,1,none⟩=some a1/\w.cell? ⟨g,2,none⟩=some a2/\w.cell? ⟨g,3,none⟩=some a3/\w.cell? ⟨g,4,none⟩=some a4/\w.cell? ⟨g,5,none⟩=some a5/\w.cell? ⟨g,6,none⟩=some a6:=by
 have hc:∀i,w.cell? ⟨g,i,none⟩=#[a0,a1,a2,a3,a4,a5,a6][i]?:=λi=>cell_of_row w g i _ t (0,0) h
 exact⟨hc 0,hc 1,hc 2,hc 3,hc 4,hc 5,hc 6⟩
theorem wI (F T:Int) (r:Bool) (w:World) (h:mJ F T=r):Calls prog 341 #[.agg #[.int .i64 F,.int .i64 T]] w (eO w (.bool r)):=by
 subst h;cases h1:uh F
 case' false=>
  have HP:=Hq (show mJ F T=false by simp[mJ,h1]);have H1:=Hq (λw1=>isNode F false w1 h1);clear h1;exact aje
 have H1:=Hq (λw1=>isNode F true w1 h1);cases h2:uh T
 case' false=>
  have HP:=Hq (show mJ F T=false by simp[mJ,h2])
  have H2:=Hq (λw1=>isNode T false w1 h2)
  open ayQ in exact ahT
 have H2:=Hq (λw1=>isNode T true w1 h2);by_cases hft:F=T
 case' pos=>
  have HP:=Hq (show mJ F T=false by simp[mJ,hft]);clear h1 h2;subst hft;exact aje
 have HP:=Hq (show mJ F T=true by simp[mJ,h1,h2,hft]);have he:(F != T)=true:=by simp[hft]
 open ayP in exact ahT
theorem M8 (F T:Int) (k:ByteArray) (N:Int) (r:Bool) (w:World) (h:(mJ F T&&keyOk k.data.toList&&fK N)=r):Calls prog 342 #[.agg #[.int .i64 F,.int .i64 T,.string k,.int .i64 N]] w (eO w (.bool r)):=by
 have HQ:=Hq h;clear h;cases hr:mJ F T
 case' false=>
  have HP:=Hq (show(mJ F T&&keyOk k.data.toList&&fK N)=false by simp[hr]);have HR:=Hq (λw1=>wI F T false w1 hr);clear hr;go_in
  go_wp2_with (first|(go_at_call 341;refine(HR _).mono ?_;rintro e w2 ⟨rfl,hb2⟩;have hA:=aN (heap_alloc_new w _) hb2;have hB:=(ay w _).trans (hb2.mono Aac);obtain⟨c0,c1,c2,c3⟩:=Kv hA;have hz:=dG hA;clear hA hb2))
  exact ze
 have HR:=Hq (λw1=>wI F T true w1 hr);cases hc0:keyOk k.data.toList
 case' false=>
  have HP:=Hq (show(mJ F T&&keyOk k.data.toList&&fK N)=false by simp[hr,hc0]);have Nf:=Hq (λw1=>iC k false w1 hc0);clear hr hc0;go_in
  go_wp2_with (first|(go_at_call 341;refine(HR _).mono ?_;rintro e w2 ⟨rfl,hb2⟩;have hA:=aN (heap_alloc_new w _) hb2;have hB:=(ay w _).trans (hb2.mono Aac);obtain⟨c0,c1,c2,c3⟩:=Kv hA;have hz:=dG hA;clear hA hb2)|(go_at_call_of 204 k;refine(Nf _).mono ?_;rintro e w1 ⟨rfl,rfl⟩))
  exact ze
 have Nf:=Hq (λw1=>iC k true w1 hc0);cases hc1:fK N
 case' false=>
  have HP:=Hq (show(mJ F T&&keyOk k.data.toList&&fK N)=false by simp[hr,hc0,hc1]);have Rz:=Hq (λw1=>aT N false w1 hc1);exact aBG
 have Rz:=Hq (λw1=>aT N true w1 hc1);have HP:=Hq (show(mJ F T&&keyOk k.data.toList&&fK N)=true by simp[hr,hc0,hc1]);exact aBG
theorem aj9 (F T I L:Int) (k:ByteArray) (N:Int) (r:Bool) (w:World) (h:(mJ F T&&fK I&&decide (1<=L)&&decide (L<=I)&&keyOk k.data.toList&&fK N)=r):Calls prog 343 #[.agg #[.int .i64 F,.int .i64 T,.int .i64 I,.int .i64 L,.string k,.int .i64 N]] w (eO w (.bool r)):=by
 have HQ:=Hq h;clear h;cases hr:mJ F T
 case' false=>
  have HP:=Hq (show(mJ F T&&fK I&&decide (1<=L)&&decide (L<=I)&&keyOk k.data.toList&&fK N)=false by simp[hr]);have HR:=Hq (λw1=>wI F T false w1 hr);clear hr;go_in
  go_wp2_with (first|(go_at_call 341;refine(HR _).mono ?_;rintro e w2 ⟨rfl,hb2⟩;have hA:=aN (heap_alloc_new w _) hb2;have hB:=(ay w _).trans (hb2.mono Aac);obtain⟨c0,c1,c2,c3,c4,c5⟩:=Kw hA;have hz:=dG hA;clear hA hb2))
  exact ze
 have HR:=Hq (λw1=>wI F T true w1 hr);cases hc0:fK I
 case' false=>
  have HP:=Hq (show(mJ F T&&fK I&&decide (1<=L)&&decide (L<=I)&&keyOk k.data.toList&&fK N)=false by simp[hr,hc0]);have Nf:=Hq (λw1=>aT I false w1 hc0);exact ak0
 have Nf:=Hq (λw1=>aT I true w1 hc0);by_cases hd1:1<=L
 case' neg=>
  have HP:=Hq (show(mJ F T&&fK I&&decide (1<=L)&&decide (L<=I)&&keyOk k.data.toList&&fK N)=false by simp[hr,hc0,hd1]);exact ak0
 by_cases hd2:L<=I
 case' neg=>
  have HP:=Hq (show(mJ F T&&fK I&&decide (1<=L)&&decide (L<=I)&&keyOk k.data.toList&&fK N)=false by simp[hr,hc0,hd1,hd2]);exact ak0
 cases hc1:keyOk k.data.toList
 case' false=>
  have HP:=Hq (show(mJ F T&&fK I&&decide (1<=L)&&decide (L<=I)&&keyOk k.data.toList&&fK N)=false by simp[hr,hc0,hd1,hd2,hc1]);have Rz:=Hq (λw1=>iC k false w1 hc1);clear hr hc0 hc1;go_in
  go_wp2_with (first|(go_at_call 341;refine(HR _).mono ?_;rintro e w2 ⟨rfl,hb2⟩;have hA:=aN (heap_alloc_new w _) hb2;have hB:=(ay w _).trans (hb2.mono Aac);obtain⟨c0,c1,c2,c3,c4,c5⟩:=Kw hA;have hz:=dG hA;clear hA hb2)|(go_at_call_of 169 I;refine(Nf _).mono ?_;rintro e w1 ⟨rfl,rfl⟩)|(go_at_call_of 204 k;refine(Rz _).mono ?_;rintro e w1 ⟨rfl,rfl⟩))
  exact ze
 have Rz:=Hq (λw1=>iC k true w1 hc1);cases hc2:fK N
 case' false=>
  have HP:=Hq (show(mJ F T&&fK I&&decide (1<=L)&&decide (L<=I)&&keyOk k.data.toList&&fK N)=false by simp[hr,hc0,hd1,hd2,hc1,hc2]);have Gl:=Hq (λw1=>aT N false w1 hc2);exact aBA
 have Gl:=Hq (λw1=>aT N true w1 hc2);have HP:=Hq (show(mJ F T&&fK I&&decide (1<=L)&&decide (L<=I)&&keyOk k.data.toList&&fK N)=true by simp[hr,hc0,hd1,hd2,hc1,hc2]);exact aBA
theorem OE (F T I:Int) (r:Bool) (w:World) (h:(mJ F T&&fK I)=r):Calls prog 344 #[.agg #[.int .i64 F,.int .i64 T,.int .i64 I]] w (eO w (.bool r)):=by
 have HQ:=Hq h;clear h;cases hr:mJ F T
 case' false=>
  have HP:=Hq (show(mJ F T&&fK I)=false by simp[hr]);have HR:=Hq (λw1=>wI F T false w1 hr);clear hr;go_in
  go_wp2_with (first|(go_at_call 341;refine(HR _).mono ?_;rintro e w2 ⟨rfl,hb2⟩;have hA:=aN (heap_alloc_new w _) hb2;have hB:=(ay w _).trans (hb2.mono Aac);obtain⟨c0,c1,c2⟩:=cells3 hA;have hz:=dG hA;clear hA hb2))
  exact ze
 have HR:=Hq (λw1=>wI F T true w1 hr);cases hc0:fK I
 case' false=>
  have HP:=Hq (show(mJ F T&&fK I)=false by simp[hr,hc0]);have Nf:=Hq (λw1=>aT I false w1 hc0);exact aBJ
 have Nf:=Hq (λw1=>aT I true w1 hc0);have HP:=Hq (show(mJ F T&&fK I)=true by simp[hr,hc0]);exact aBJ
open Go.WideShapes
theorem akg (m:Mg) (w:World):Calls prog 64 #[mY m] w (eO w (mY m)):=by
 obtain⟨K,F,T,I,L,k,N⟩:=m;go_in
 go_wp2_with fail;refine bodyPost_ret (v:= .agg (bX K F T I L k N)) (by simp[results,results64,go_sem]) rfl ⟨rfl,?_⟩;exact Vu
theorem eT {w:World} (h:w.heap[g]?=some (.cells #[a0,a1,a2,a3,a4,a5,a6] t (0,0))):
 (w.cell? ⟨g,0,none⟩=some a0/\w.cell? ⟨g,1,none⟩=some a1/\w.cell? ⟨g,2,none⟩=some a2/\w.cell? ⟨g,3,none⟩=some a3/\w.cell? ⟨g,4,none⟩=some a4/\w.cell? ⟨g,5,none⟩=some a5/\w.cell? ⟨g,6,none⟩=some a6)/\
  (w.frozen? ⟨g,0,none⟩=false/\w.frozen? ⟨g,1,none⟩=false/\w.frozen? ⟨g,2,none⟩=false/\w.frozen? ⟨g,3,none⟩=false/\w.frozen? ⟨g,4,none⟩=false/\w.frozen? ⟨g,5,none⟩=false/\w.frozen? ⟨g,6,none⟩=false):=by
 have hf:∀i,w.frozen? ⟨g,i,none⟩=false:=λi=>by unfold World.frozen?;rw [h];simp
 exact⟨tF h,hf 0,hf 1,hf 2,hf 3,hf 4,hf 5,hf 6⟩
theorem blk_set {w:World} {c:Nat} {cs:Array Value} (h:w.heap[c]?=some (.cells cs t (0,0))) (i:Nat) (v:Value):(w.setCell ⟨c,i,none⟩ v).heap[c]?=some (.cells (cs.setIfInBounds i v) t (0,0)):=by
 exact Vv
theorem one_other {w:World} {g' i:Nat} {v:Value} {o:Option Obj} (h:w.heap[g']?=o) (hne:g'≠g):(w.setCell ⟨g,i,none⟩ v).heap[g']?=o:=by rw [Below.heap_setCell _ _ _ _ hne,h]
theorem sJ {w:World} {b0 b1 b2 b3 b4 b5 b6:Value} (h:w.heap[g]?=some (.cells #[a0,a1,a2,a3,a4,a5,a6] t (0,0))):
 (((((((w.setCell ⟨g,0,none⟩ b0).setCell ⟨g,1,none⟩ b1).setCell ⟨g,2,none⟩ b2).setCell ⟨g,3,none⟩ b3).setCell ⟨g,4,none⟩ b4).setCell ⟨g,5,none⟩ b5).setCell ⟨g,6,none⟩ b6).heap[g]?=some (.cells #[b0,b1,b2,b3,b4,b5,b6] t (0,0)):=by
 have h0:(w.setCell ⟨g,0,none⟩ b0).heap[g]?=some (.cells #[b0,a1,a2,a3,a4,a5,a6] t (0,0)):=blk_set h 0 b0;have h1:((w.setCell ⟨g,0,none⟩ b0).setCell ⟨g,1,none⟩ b1).heap[g]?=some (.cells #[b0,b1,a2,a3,a4,a5,a6] t (0,0)):=blk_set h0 1 b1;have h2:(((w.setCell ⟨g,0,none⟩ b0).setCell ⟨g,1,none⟩ b1).setCell ⟨g,2,none⟩ b2).heap[g]?=some (.cells #[b0,b1,b2,a3,a4,a5,a6] t (0,0)):=blk_set h1 2 b2;have h3:((((w.setCell ⟨g,0,none⟩ b0).setCell ⟨g,1,none⟩ b1).setCell ⟨g,2,none⟩ b2).setCell ⟨g,3,none⟩ b3).heap[g]?=some (.cells #[b0,b1,b2,b3,a4,a5,a6] t (0,0)):=blk_set h2 3 b3;have h4:(((((w.setCell ⟨g,0,none⟩ b0).setCell ⟨g,1,none⟩ b1).setCell ⟨g,2,none⟩ b2).setCell ⟨g,3,none⟩ b3).setCell ⟨g,4,none⟩ b4).heap[g]?=some (.cells #[b0,b1,b2,b3,b4,a5,a6] t (0,0)):=blk_set h3 4 b4;have h5:((((((w.setCell ⟨g,0,none⟩ b0).setCell ⟨g,1,none⟩ b1).setCell ⟨g,2,none⟩ b2).setCell ⟨g,3,none⟩ b3).setCell ⟨g,4,none⟩ b4).setCell ⟨g,5,none⟩ b5).heap[g]?=some (.cells #[b0,b1,b2,b3,b4,b5,a6] t (0,0)):=blk_set h4 5 b5;have h6:(((((((w.setCell ⟨g,0,none⟩ b0).setCell ⟨g,1,none⟩ b1).setCell ⟨g,2,none⟩ b2).setCell ⟨g,3,none⟩ b3).setCell ⟨g,4,none⟩ b4).setCell ⟨g,5,none⟩ b5).setCell ⟨g,6,none⟩ b6).heap[g]?=some (.cells #[b0,b1,b2,b3,b4,b5,b6] t (0,0)):=blk_set h5 6 b6;exact h6
theorem qW {a w:World} {B:Nat} {b0 b1 b2 b3 b4 b5 b6:Value} (h:Below B a w) (hg:B<=g):
 Below B a (((((((w.setCell ⟨g,0,none⟩ b0).setCell ⟨g,1,none⟩ b1).setCell ⟨g,2,none⟩ b2).setCell ⟨g,3,none⟩ b3).setCell ⟨g,4,none⟩ b4).setCell ⟨g,5,none⟩ b5).setCell ⟨g,6,none⟩ b6):=
 ((((((h.setCell (p:=⟨g,0,none⟩) hg b0).setCell (p:=⟨g,1,none⟩) hg b1).setCell (p:=⟨g,2,none⟩) hg b2).setCell (p:=⟨g,3,none⟩) hg b3).setCell (p:=⟨g,4,none⟩) hg b4).setCell (p:=⟨g,5,none⟩) hg b5).setCell (p:=⟨g,6,none⟩) hg b6
theorem bodyPost_at {P:Program} {fn:Func} {Q:Ending->World->Prop} {x:Exit} {act:Act} {W:World} (h:∀W',W'=W->bodyPost P fn Q x act W'):bodyPost P fn Q x act W:=h W rfl
theorem Kt (v:Value) (w:World):(Instr.typeAssert (.iface 282 v) 253 282 true).run prog w= .ok (.tuple #[v,.bool true]) w:=Aab
theorem OI (v:Value) (w:World):(Instr.typeAssert (.iface 284 v) 253 282 true).run prog w= .ok (.tuple #[.agg #[.int .i64 0,.int .i64 0,.string ⟨#[]⟩,.int .i64 0],.bool false]) w:=Aab
theorem Sv (v:Value) (w:World):(Instr.typeAssert (.iface 284 v) 253 284 true).run prog w= .ok (.tuple #[v,.bool true]) w:=Aab
theorem OH (v:Value) (w:World):(Instr.typeAssert (.iface 286 v) 253 282 true).run prog w= .ok (.tuple #[.agg #[.int .i64 0,.int .i64 0,.string ⟨#[]⟩,.int .i64 0],.bool false]) w:=Aab
theorem Sr (v:Value) (w:World):(Instr.typeAssert (.iface 286 v) 253 284 true).run prog w= .ok (.tuple #[.agg #[.int .i64 0,.int .i64 0,.int .i64 0,.int .i64 0,.string ⟨#[]⟩,.int .i64 0],.bool false]) w:=Aab
theorem Sq (v:Value) (w:World):(Instr.typeAssert (.iface 286 v) 253 286 true).run prog w= .ok (.tuple #[v,.bool true]) w:=Aab
theorem yt (F T:Int) (k:ByteArray) (N:Int) (w:World):Calls prog 259 #[.iface 282 (.agg #[.int .i64 F,.int .i64 T,.string k,.int .i64 N])] w (eO w (mY ⟨0,F,T,0,0,k,N⟩)):=by
 have f0:=Kt (.agg #[.int .i64 F,.int .i64 T,.string k,.int .i64 N]);go_in
 go_wp2_with fail;refine bodyPost_ret (v:= .agg (bX 0 F T 0 0 k N)) Adh rfl ⟨rfl,?_⟩;exact aa6
theorem XY (F T I L:Int) (k:ByteArray) (N:Int) (w:World):Calls prog 259 #[.iface 284 (.agg #[.int .i64 F,.int .i64 T,.int .i64 I,.int .i64 L,.string k,.int .i64 N])] w (eO w (mY ⟨1,F,T,I,L,k,N⟩)):=by
 have f0:=OI (.agg #[.int .i64 F,.int .i64 T,.int .i64 I,.int .i64 L,.string k,.int .i64 N]);have f1:=Sv (.agg #[.int .i64 F,.int .i64 T,.int .i64 I,.int .i64 L,.string k,.int .i64 N]);go_in
 go_wp2_with fail;refine bodyPost_ret (v:= .agg (bX 1 F T I L k N)) Adh rfl ⟨rfl,?_⟩;exact aa6
theorem wF (F T I:Int) (w:World):Calls prog 259 #[.iface 286 (.agg #[.int .i64 F,.int .i64 T,.int .i64 I])] w (eO w (mY ⟨2,F,T,I,0,ByteArray.empty,0⟩)):=by
 have f0:=OH (.agg #[.int .i64 F,.int .i64 T,.int .i64 I]);have f1:=Sr (.agg #[.int .i64 F,.int .i64 T,.int .i64 I]);have f2:=Sq (.agg #[.int .i64 F,.int .i64 T,.int .i64 I]);go_in
 go_wp2_with fail;refine bodyPost_ret (v:= .agg (bX 2 F T I 0 ByteArray.empty 0)) Adh rfl ⟨rfl,?_⟩;exact aa6
theorem Io (hs:k.size<=maxLen):Calls prog 105 #[jJ ⟨0,no,k,n,m⟩] w (eO w (.bool (cK ⟨0,no,k,n,m⟩))):=by
 obtain⟨mK,mF,mT,mI,mL,mk,mN⟩:=m;obtain⟨R,hR⟩:∃R,cK ⟨0,no,k,n,⟨mK,mF,mT,mI,mL,mk,mN⟩⟩=R:=⟨_,rfl⟩;exact akU
theorem Iq (hs:k.size<=maxLen):Calls prog 105 #[jJ ⟨3,no,k,n,m⟩] w (eO w (.bool (cK ⟨3,no,k,n,m⟩))):=by
 obtain⟨mK,mF,mT,mI,mL,mk,mN⟩:=m;obtain⟨R,hR⟩:∃R,cK ⟨3,no,k,n,⟨mK,mF,mT,mI,mL,mk,mN⟩⟩=R:=⟨_,rfl⟩;exact akU
theorem Ij (hs:k.size<=maxLen):Calls prog 105 #[jJ ⟨4,no,k,n,m⟩] w (eO w (.bool (cK ⟨4,no,k,n,m⟩))):=by
 obtain⟨mK,mF,mT,mI,mL,mk,mN⟩:=m;obtain⟨R,hR⟩:∃R,cK ⟨4,no,k,n,⟨mK,mF,mT,mI,mL,mk,mN⟩⟩=R:=⟨_,rfl⟩;exact akU
theorem FY (hs:k.size<=maxLen):Calls prog 105 #[jJ ⟨1,no,k,n,m⟩] w (eO w (.bool (cK ⟨1,no,k,n,m⟩))):=by
 obtain⟨mK,mF,mT,mI,mL,mk,mN⟩:=m;obtain⟨R,hR⟩:∃R,cK ⟨1,no,k,n,⟨mK,mF,mT,mI,mL,mk,mN⟩⟩=R:=⟨_,rfl⟩;rw [hR];have HR:=Hq hR;clear hR;cases hk:keyOk k.data.toList
 .have HK:=Hq (λw1=>nU k false w1 hs hk);cases hn:fK n
  .have HN:=Hq (λw1=>eU n false w1 hn);cases ho:fK no
   .have HO:=Hq (λw1=>eU no false w1 ho);have HP:=Hq (show R=(false&&false&&false&&lQ ⟨mK,mF,mT,mI,mL,mk,mN⟩) by rw [<-ah HR];simp[cK,hk,hn,ho]);exact OD
   .have HO:=Hq (λw1=>eU no true w1 ho);have HP:=Hq (show R=(false&&false&&true&&lQ ⟨mK,mF,mT,mI,mL,mk,mN⟩) by rw [<-ah HR];simp[cK,hk,hn,ho]);exact OD
  .have HN:=Hq (λw1=>eU n true w1 hn);cases ho:fK no
   .have HO:=Hq (λw1=>eU no false w1 ho);have HP:=Hq (show R=(false&&true&&false&&lQ ⟨mK,mF,mT,mI,mL,mk,mN⟩) by rw [<-ah HR];simp[cK,hk,hn,ho]);exact OD
   .have HO:=Hq (λw1=>eU no true w1 ho);have HP:=Hq (show R=(false&&true&&true&&lQ ⟨mK,mF,mT,mI,mL,mk,mN⟩) by rw [<-ah HR];simp[cK,hk,hn,ho]);exact OD
 .have HK:=Hq (λw1=>nU k true w1 hs hk);cases hn:fK n
  .have HN:=Hq (λw1=>eU n false w1 hn);cases ho:fK no
   .have HO:=Hq (λw1=>eU no false w1 ho);have HP:=Hq (show R=(true&&false&&false&&lQ ⟨mK,mF,mT,mI,mL,mk,mN⟩) by rw [<-ah HR];simp[cK,hk,hn,ho]);exact OD
   .have HO:=Hq (λw1=>eU no true w1 ho);have HP:=Hq (show R=(true&&false&&true&&lQ ⟨mK,mF,mT,mI,mL,mk,mN⟩) by rw [<-ah HR];simp[cK,hk,hn,ho]);exact OD
  .have HN:=Hq (λw1=>eU n true w1 hn);cases ho:fK no
   .have HO:=Hq (λw1=>eU no false w1 ho);have HP:=Hq (show R=(true&&true&&false&&lQ ⟨mK,mF,mT,mI,mL,mk,mN⟩) by rw [<-ah HR];simp[cK,hk,hn,ho]);exact OD
   .have HO:=Hq (λw1=>eU no true w1 ho);have HP:=Hq (show R=(true&&true&&true&&lQ ⟨mK,mF,mT,mI,mL,mk,mN⟩) by rw [<-ah HR];simp[cK,hk,hn,ho]);exact OD
theorem BQ (_hs:k.size<=maxLen):Calls prog 105 #[jJ ⟨2,no,k,n,m⟩] w (eO w (.bool (cK ⟨2,no,k,n,m⟩))):=by
 obtain⟨mK,mF,mT,mI,mL,mk,mN⟩:=m;obtain⟨R,hR⟩:∃R,cK ⟨2,no,k,n,⟨mK,mF,mT,mI,mL,mk,mN⟩⟩=R:=⟨_,rfl⟩;rw [hR];have HR:=Hq hR;clear hR;cases ho:fK no
 .have HO:=Hq (λw1=>eU no false w1 ho);have HP:=Hq (show R=(decide (k.toList=[])&&decide (n=0)&&false&&lQ ⟨mK,mF,mT,mI,mL,mk,mN⟩) by rw [<-ah HR];simp[cK,ho]);exact ais
 .have HO:=Hq (λw1=>eU no true w1 ho);have HP:=Hq (show R=(decide (k.toList=[])&&decide (n=0)&&true&&lQ ⟨mK,mF,mT,mI,mL,mk,mN⟩) by rw [<-ah HR];simp[cK,ho]);exact ais
theorem Ip (_hs:k.size<=maxLen):Calls prog 105 #[jJ ⟨5,no,k,n,m⟩] w (eO w (.bool (cK ⟨5,no,k,n,m⟩))):=by
 open avI in exact ag0
theorem Il (hm:m.k.size<=maxLen):Calls prog 105 #[jJ ⟨6,no,k,n,m⟩] w (eO w (.bool (cK ⟨6,no,k,n,m⟩))):=by
 have HM:=Hq (λw1=>kD m w1 hm);open axt in exact ahu
theorem Ik (K no:Int) (k:ByteArray) (n:Int) (m:Mg) (w:World) (h0:¬K=0) (h1:¬K=1) (h2:¬K=2) (h3:¬K=3) (h4:¬K=4) (h5:¬K=5) (h6:¬K=6):Calls prog 105 #[jJ ⟨K,no,k,n,m⟩] w (eO w (.bool (cK ⟨K,no,k,n,m⟩))):=by
 have HP:=Hq (show cK ⟨K,no,k,n,m⟩=false by simp[cK,h0,h1,h2,h3,h4,h5,h6]);obtain⟨mK,mF,mT,mI,mL,mk,mN⟩:=m;go_in
 go_wp2_with fail;exact wP
theorem jv (o:gQ) (w:World) (hs:o.k.size<=maxLen) (hm:o.m.k.size<=maxLen):Calls prog 105 #[jJ o] w (eO w (.bool (cK o))):=by
 obtain⟨K,no,k,n,m⟩:=o;by_cases h0:K=0
 .subst h0;exact Io no k n m w hs
 by_cases h1:K=1
 .subst h1;exact FY no k n m w hs
 by_cases h2:K=2
 .subst h2;exact BQ no k n m w hs
 by_cases h3:K=3
 .subst h3;exact Iq no k n m w hs
 by_cases h4:K=4
 .subst h4;exact Ij no k n m w hs
 by_cases h5:K=5
 .subst h5;exact Ip no k n m w hs
 by_cases h6:K=6
 .subst h6;exact Il no k n m w hm
 exact Ik K no k n m w h0 h1 h2 h3 h4 h5 h6
end Go.Proofs.YtohmklmkjmlpjaaGreatDoor
