/- Parts. -/
import Derived.Test.YtohmklmkjmlpjaaGreatDoorRc3
namespace Go.Proofs.YtohmklmkjmlpjaaGreatDoor
open Go.Proofs.Tryz
set_option maxHeartbeats 2000000
set_option maxRecDepth 100000
open Go.RowKit
open Mth
variable (v:Value) (w:World) {g:Nat} {t:TypeId} {a0 a1 a2 a3 a4 a5 a6:Value} {m:Mg} {o:gW}
theorem dA {w:World} {o:Obj} (h:w.heap[g]?=some o):g < w.heap.size:=by
 exact abg
theorem aK {w w':World} {o:Obj} (h:w.heap[g]?=some o) (hb:aI w w'):w'.heap[g]?=some o:=by
 rw [hb.block g (dA h)];exact h
theorem cells3 {w:World} (h:w.heap[g]?=some (.cells #[a0,a1,a2] t (0,0))):
 w.cell? ⟨g,0,none⟩=some a0/\w.cell? ⟨g,1,none⟩=some a1/\w.cell? ⟨g,2,none⟩=some a2:=by
 have hc:∀i,w.cell? ⟨g,i,none⟩=#[a0,a1,a2][i]?:=λi=>aGu w g i _ t (0,0) h
 exact⟨hc 0,hc 1,hc 2⟩
theorem LZ {w:World} (h:w.heap[g]?=some (.cells #[a0,a1,a2,a3] t (0,0))):
 w.cell? ⟨g,0,none⟩=some a0/\w.cell? ⟨g,1,none⟩=some a1/\w.cell? ⟨g,2,none⟩=some a2/\w.cell? ⟨g,3,none⟩=some a3:=by
 have hc:∀i,w.cell? ⟨g,i,none⟩=#[a0,a1,a2,a3][i]?:=λi=>aGu w g i _ t (0,0) h
 exact⟨hc 0,hc 1,hc 2,hc 3⟩
theorem L9 {w:World} (h:w.heap[g]?=some (.cells #[a0,a1,a2,a3,a4,a5] t (0,0))):
 w.cell? ⟨g,0,none⟩=some a0/\w.cell? ⟨g,1,none⟩=some a1/\w.cell? ⟨g,2,none⟩=some a2/\w.cell? ⟨g,3,none⟩=some a3/\w.cell? ⟨g,4,none⟩=some a4/\w.cell? ⟨g,5,none⟩=some a5:=by
 have hc:∀i,w.cell? ⟨g,i,none⟩=#[a0,a1,a2,a3,a4,a5][i]?:=λi=>aGu w g i _ t (0,0) h
 exact⟨hc 0,hc 1,hc 2,hc 3,hc 4,hc 5⟩
theorem uG {w:World} (h:w.heap[g]?=some (.cells #[a0,a1,a2,a3,a4,a5,a6] t (0,0))):
 w.cell? ⟨g,0,none⟩=some a0/\w.cell? ⟨g,1,none⟩=some a1/\w.cell? ⟨g,2,none⟩=some a2/\w.cell? ⟨g,3,none⟩=some a3/\w.cell? ⟨g,4,none⟩=some a4/\w.cell? ⟨g,5,none⟩=some a5/\w.cell? ⟨g,6,none⟩=some a6:=by
 have hc:∀i,w.cell? ⟨g,i,none⟩=#[a0,a1,a2,a3,a4,a5,a6][i]?:=λi=>aGu w g i _ t (0,0) h
 exact⟨hc 0,hc 1,hc 2,hc 3,hc 4,hc 5,hc 6⟩
theorem xJ (F T:Int) (r:Bool) (w:World) (h:nC F T=r):Calls prog 341 #[.agg #[.int .i64 F,.int .i64 T]] w (dZ w (.bool r)):=by
 subst h;cases h1:uU F
 case' false=>
  have HP:=Hq (show nC F T=false by simp[nC,h1]);have H1:=Hq (λw1=>isNode F false w1 h1);clear h1;exact ai6
 have H1:=Hq (λw1=>isNode F true w1 h1);cases h2:uU T
 case' false=>
  have HP:=Hq (show nC F T=false by simp[nC,h2])
  have H2:=Hq (λw1=>isNode T false w1 h2)
  open aw5 in exact ahR
 have H2:=Hq (λw1=>isNode T true w1 h2);by_cases hft:F=T
 case' pos=>
  have HP:=Hq (show nC F T=false by simp[nC,hft]);clear h1 h2;subst hft;exact ai6
 have HP:=Hq (show nC F T=true by simp[nC,h1,h2,hft]);have he:(F != T)=true:=by simp[hft]
 open aw4 in exact ahR
theorem Oe (F T:Int) (k:ByteArray) (N:Int) (r:Bool) (w:World) (h:(nC F T&&keyOk k.data.toList&&fO N)=r):Calls prog 342 #[.agg #[.int .i64 F,.int .i64 T,.string k,.int .i64 N]] w (dZ w (.bool r)):=by
 have HQ:=Hq h;clear h;cases hr:nC F T
 case' false=>
  have HP:=Hq (show(nC F T&&keyOk k.data.toList&&fO N)=false by simp[hr]);have HR:=Hq (λw1=>xJ F T false w1 hr);clear hr;go_in
  go_wp2_with (first|(go_at_call 341;refine(HR _).mono ?_;rintro e w2 ⟨rfl,hb2⟩;have hA:=aK (aGg w _) hb2;have hB:=(ay w _).trans (hb2.mono Aac);obtain⟨c0,c1,c2,c3⟩:=LZ hA;have hz:=dA hA;clear hA hb2))
  exact zN
 have HR:=Hq (λw1=>xJ F T true w1 hr);cases hc0:keyOk k.data.toList
 case' false=>
  have HP:=Hq (show(nC F T&&keyOk k.data.toList&&fO N)=false by simp[hr,hc0]);have Oi:=Hq (λw1=>iH k false w1 hc0);clear hr hc0;go_in
  go_wp2_with (first|(go_at_call 341;refine(HR _).mono ?_;rintro e w2 ⟨rfl,hb2⟩;have hA:=aK (aGg w _) hb2;have hB:=(ay w _).trans (hb2.mono Aac);obtain⟨c0,c1,c2,c3⟩:=LZ hA;have hz:=dA hA;clear hA hb2)|(go_at_call_of 204 k;refine(Oi _).mono ?_;rintro e w1 ⟨rfl,rfl⟩))
  exact zN
 have Oi:=Hq (λw1=>iH k true w1 hc0);cases hc1:fO N
 case' false=>
  have HP:=Hq (show(nC F T&&keyOk k.data.toList&&fO N)=false by simp[hr,hc0,hc1]);have HC1:=Hq (λw1=>aQ N false w1 hc1);exact azN
 have HC1:=Hq (λw1=>aQ N true w1 hc1);have HP:=Hq (show(nC F T&&keyOk k.data.toList&&fO N)=true by simp[hr,hc0,hc1]);exact azN
theorem aj1 (F T I L:Int) (k:ByteArray) (N:Int) (r:Bool) (w:World) (h:(nC F T&&fO I&&decide (1<=L)&&decide (L<=I)&&keyOk k.data.toList&&fO N)=r):Calls prog 343 #[.agg #[.int .i64 F,.int .i64 T,.int .i64 I,.int .i64 L,.string k,.int .i64 N]] w (dZ w (.bool r)):=by
 have HQ:=Hq h;clear h;cases hr:nC F T
 case' false=>
  have HP:=Hq (show(nC F T&&fO I&&decide (1<=L)&&decide (L<=I)&&keyOk k.data.toList&&fO N)=false by simp[hr]);have HR:=Hq (λw1=>xJ F T false w1 hr);clear hr;go_in
  go_wp2_with (first|(go_at_call 341;refine(HR _).mono ?_;rintro e w2 ⟨rfl,hb2⟩;have hA:=aK (aGg w _) hb2;have hB:=(ay w _).trans (hb2.mono Aac);obtain⟨c0,c1,c2,c3,c4,c5⟩:=L9 hA;have hz:=dA hA;clear hA hb2))
  exact zN
 have HR:=Hq (λw1=>xJ F T true w1 hr);cases hc0:fO I
 case' false=>
  have HP:=Hq (show(nC F T&&fO I&&decide (1<=L)&&decide (L<=I)&&keyOk k.data.toList&&fO N)=false by simp[hr,hc0]);have Oi:=Hq (λw1=>aQ I false w1 hc0);exact akY
 have Oi:=Hq (λw1=>aQ I true w1 hc0);by_cases hd1:1<=L
 case' neg=>
  have HP:=Hq (show(nC F T&&fO I&&decide (1<=L)&&decide (L<=I)&&keyOk k.data.toList&&fO N)=false by simp[hr,hc0,hd1]);exact akY
 by_cases hd2:L<=I
 case' neg=>
  have HP:=Hq (show(nC F T&&fO I&&decide (1<=L)&&decide (L<=I)&&keyOk k.data.toList&&fO N)=false by simp[hr,hc0,hd1,hd2]);exact akY
 cases hc1:keyOk k.data.toList
 case' false=>
  have HP:=Hq (show(nC F T&&fO I&&decide (1<=L)&&decide (L<=I)&&keyOk k.data.toList&&fO N)=false by simp[hr,hc0,hd1,hd2,hc1]);have HC1:=Hq (λw1=>iH k false w1 hc1);clear hr hc0 hc1;go_in
  go_wp2_with (first|(go_at_call 341;refine(HR _).mono ?_;rintro e w2 ⟨rfl,hb2⟩;have hA:=aK (aGg w _) hb2;have hB:=(ay w _).trans (hb2.mono Aac);obtain⟨c0,c1,c2,c3,c4,c5⟩:=L9 hA;have hz:=dA hA;clear hA hb2)|(go_at_call_of 169 I;refine(Oi _).mono ?_;rintro e w1 ⟨rfl,rfl⟩)|(go_at_call_of 204 k;refine(HC1 _).mono ?_;rintro e w1 ⟨rfl,rfl⟩))
  exact zN
 have HC1:=Hq (λw1=>iH k true w1 hc1);cases hc2:fO N
 case' false=>
  have HP:=Hq (show(nC F T&&fO I&&decide (1<=L)&&decide (L<=I)&&keyOk k.data.toList&&fO N)=false by simp[hr,hc0,hd1,hd2,hc1,hc2]);have EI:=Hq (λw1=>aQ N false w1 hc2);exact azH
 have EI:=Hq (λw1=>aQ N true w1 hc2);have HP:=Hq (show(nC F T&&fO I&&decide (1<=L)&&decide (L<=I)&&keyOk k.data.toList&&fO N)=true by simp[hr,hc0,hd1,hd2,hc1,hc2]);exact azH
theorem Pe (F T I:Int) (r:Bool) (w:World) (h:(nC F T&&fO I)=r):Calls prog 344 #[.agg #[.int .i64 F,.int .i64 T,.int .i64 I]] w (dZ w (.bool r)):=by
 have HQ:=Hq h;clear h;cases hr:nC F T
 case' false=>
  have HP:=Hq (show(nC F T&&fO I)=false by simp[hr]);have HR:=Hq (λw1=>xJ F T false w1 hr);clear hr;go_in
  go_wp2_with (first|(go_at_call 341;refine(HR _).mono ?_;rintro e w2 ⟨rfl,hb2⟩;have hA:=aK (aGg w _) hb2;have hB:=(ay w _).trans (hb2.mono Aac);obtain⟨c0,c1,c2⟩:=cells3 hA;have hz:=dA hA;clear hA hb2))
  exact zN
 have HR:=Hq (λw1=>xJ F T true w1 hr);cases hc0:fO I
 case' false=>
  have HP:=Hq (show(nC F T&&fO I)=false by simp[hr,hc0]);have Oi:=Hq (λw1=>aQ I false w1 hc0);exact azQ
 have Oi:=Hq (λw1=>aQ I true w1 hc0);have HP:=Hq (show(nC F T&&fO I)=true by simp[hr,hc0]);exact azQ
open Go.WideShapes
theorem aj6 (m:Mg) (w:World):Calls prog 64 #[oz m] w (dZ w (oz m)):=by
 obtain⟨K,F,T,I,L,k,N⟩:=m;go_in
 go_wp2_with fail;refine aGn (v:= .agg (bX K F T I L k N)) (by simp[results,results64,go_sem]) rfl ⟨rfl,?_⟩;exact Wv
theorem eT {w:World} (h:w.heap[g]?=some (.cells #[a0,a1,a2,a3,a4,a5,a6] t (0,0))):
 (w.cell? ⟨g,0,none⟩=some a0/\w.cell? ⟨g,1,none⟩=some a1/\w.cell? ⟨g,2,none⟩=some a2/\w.cell? ⟨g,3,none⟩=some a3/\w.cell? ⟨g,4,none⟩=some a4/\w.cell? ⟨g,5,none⟩=some a5/\w.cell? ⟨g,6,none⟩=some a6)/\
  (w.frozen? ⟨g,0,none⟩=false/\w.frozen? ⟨g,1,none⟩=false/\w.frozen? ⟨g,2,none⟩=false/\w.frozen? ⟨g,3,none⟩=false/\w.frozen? ⟨g,4,none⟩=false/\w.frozen? ⟨g,5,none⟩=false/\w.frozen? ⟨g,6,none⟩=false):=by
 have hf:∀i,w.frozen? ⟨g,i,none⟩=false:=λi=>by unfold World.frozen?;rw [h];simp
 exact⟨uG h,hf 0,hf 1,hf 2,hf 3,hf 4,hf 5,hf 6⟩
theorem blk_set {w:World} {c:Nat} {cs:Array Value} (h:w.heap[c]?=some (.cells cs t (0,0))) (i:Nat) (v:Value):(w.setCell ⟨c,i,none⟩ v).heap[c]?=some (.cells (cs.setIfInBounds i v) t (0,0)):=by
 exact Ww
theorem one_other {w:World} {g' i:Nat} {v:Value} {o:Option Obj} (h:w.heap[g']?=o) (hne:g'≠g):(w.setCell ⟨g,i,none⟩ v).heap[g']?=o:=by rw [aGx _ _ _ _ hne,h]
theorem uf {w:World} {b0 b1 b2 b3 b4 b5 b6:Value} (h:w.heap[g]?=some (.cells #[a0,a1,a2,a3,a4,a5,a6] t (0,0))):
 (((((((w.setCell ⟨g,0,none⟩ b0).setCell ⟨g,1,none⟩ b1).setCell ⟨g,2,none⟩ b2).setCell ⟨g,3,none⟩ b3).setCell ⟨g,4,none⟩ b4).setCell ⟨g,5,none⟩ b5).setCell ⟨g,6,none⟩ b6).heap[g]?=some (.cells #[b0,b1,b2,b3,b4,b5,b6] t (0,0)):=by
 exact blk_set (blk_set (blk_set (blk_set (blk_set (blk_set (blk_set h 0 b0) 1 b1) 2 b2) 3 b3) 4 b4) 5 b5) 6 b6
theorem rQ {a w:World} {B:Nat} {b0 b1 b2 b3 b4 b5 b6:Value} (h:Below B a w) (hg:B<=g):
 Below B a (((((((w.setCell ⟨g,0,none⟩ b0).setCell ⟨g,1,none⟩ b1).setCell ⟨g,2,none⟩ b2).setCell ⟨g,3,none⟩ b3).setCell ⟨g,4,none⟩ b4).setCell ⟨g,5,none⟩ b5).setCell ⟨g,6,none⟩ b6):=
 ((((((h.setCell (p:=⟨g,0,none⟩) hg b0).setCell (p:=⟨g,1,none⟩) hg b1).setCell (p:=⟨g,2,none⟩) hg b2).setCell (p:=⟨g,3,none⟩) hg b3).setCell (p:=⟨g,4,none⟩) hg b4).setCell (p:=⟨g,5,none⟩) hg b5).setCell (p:=⟨g,6,none⟩) hg b6
theorem bodyPost_at {P:Program} {fn:Func} {Q:Ending->World->Prop} {x:Exit} {act:Act} {W:World} (h:∀W',W'=W->bodyPost P fn Q x act W'):bodyPost P fn Q x act W:=h W rfl
theorem LW:(Instr.typeAssert (.iface 282 v) 253 282 true).run prog w= .ok (.tuple #[v,.bool true]) w:=Aab
theorem Ph:(Instr.typeAssert (.iface 284 v) 253 282 true).run prog w= .ok (.tuple #[.agg #[.int .i64 0,.int .i64 0,.string ⟨#[]⟩,.int .i64 0],.bool false]) w:=Aab
theorem TJ:(Instr.typeAssert (.iface 284 v) 253 284 true).run prog w= .ok (.tuple #[v,.bool true]) w:=Aab
theorem Pg:(Instr.typeAssert (.iface 286 v) 253 282 true).run prog w= .ok (.tuple #[.agg #[.int .i64 0,.int .i64 0,.string ⟨#[]⟩,.int .i64 0],.bool false]) w:=Aab
theorem TI:(Instr.typeAssert (.iface 286 v) 253 284 true).run prog w= .ok (.tuple #[.agg #[.int .i64 0,.int .i64 0,.int .i64 0,.int .i64 0,.string ⟨#[]⟩,.int .i64 0],.bool false]) w:=Aab
theorem TH:(Instr.typeAssert (.iface 286 v) 253 286 true).run prog w= .ok (.tuple #[v,.bool true]) w:=Aab
theorem yU (F T:Int) (k:ByteArray) (N:Int) (w:World):Calls prog 259 #[.iface 282 (.agg #[.int .i64 F,.int .i64 T,.string k,.int .i64 N])] w (dZ w (oz ⟨0,F,T,0,0,k,N⟩)):=by
 have f0:=LW (.agg #[.int .i64 F,.int .i64 T,.string k,.int .i64 N]);go_in
 go_wp2_with fail;refine aGn (v:= .agg (bX 0 F T 0 0 k N)) Adf rfl ⟨rfl,?_⟩;exact abr
theorem YR (F T I L:Int) (k:ByteArray) (N:Int) (w:World):Calls prog 259 #[.iface 284 (.agg #[.int .i64 F,.int .i64 T,.int .i64 I,.int .i64 L,.string k,.int .i64 N])] w (dZ w (oz ⟨1,F,T,I,L,k,N⟩)):=by
 have f0:=Ph (.agg #[.int .i64 F,.int .i64 T,.int .i64 I,.int .i64 L,.string k,.int .i64 N]);have f1:=TJ (.agg #[.int .i64 F,.int .i64 T,.int .i64 I,.int .i64 L,.string k,.int .i64 N]);go_in
 go_wp2_with fail;refine aGn (v:= .agg (bX 1 F T I L k N)) Adf rfl ⟨rfl,?_⟩;exact abr
theorem xD (F T I:Int) (w:World):Calls prog 259 #[.iface 286 (.agg #[.int .i64 F,.int .i64 T,.int .i64 I])] w (dZ w (oz ⟨2,F,T,I,0,ByteArray.empty,0⟩)):=by
 have f0:=Pg (.agg #[.int .i64 F,.int .i64 T,.int .i64 I]);have f1:=TI (.agg #[.int .i64 F,.int .i64 T,.int .i64 I]);have f2:=TH (.agg #[.int .i64 F,.int .i64 T,.int .i64 I]);go_in
 go_wp2_with fail;refine aGn (v:= .agg (bX 2 F T I 0 ByteArray.empty 0)) Adf rfl ⟨rfl,?_⟩;exact abr
def kb (K:Int):ByteArray:=⟨[UInt8.ofNat K.toNat].toArray⟩
def Av (m:Mg):ByteArray:=kb m.K++mP m.F++mP m.T++mP m.I++mP m.L++oF m.k++mP m.N
def jU (m:Mg):ByteArray:=if cZ m=true then Av m else ByteArray.empty
theorem za (h:cZ m=true):jU m=Av m:=by unfold jU;rw [aGC h]
theorem Cz (h:cZ m=false):jU m=ByteArray.empty:=by unfold jU;rw [aGr (by rw [h];simp)]
theorem afI (h:cZ m=true):0<=m.K/\m.K<=2:=by
 unfold cZ at h;simp only[aGl] at h;obtain⟨_,h⟩:=h;exact aiH
theorem WX (K:Int):(kb K).size=1:=rfl
theorem Yc (w:World) (g:Nat) (K:Int) (h:0<=K/\K<=2) (hc:w.cell? ⟨g,0,none⟩=some (.int .u8 K)):(convert 162 9 (.slice (some ⟨g,0,none⟩) 1 1)).run prog w= .ok (.string (kb K)) w:=by
 exact azZ
def AO (o:gW):ByteArray:=kb o.K++mP o.no++oF o.k++mP o.n++oF (jU o.m)
def wP (o:gW):ByteArray:=if cK o=true then AO o else ByteArray.empty
theorem CB (h:cK o=true):wP o=AO o:=by unfold wP;rw [aGC h]
theorem QU (h:cK o=false):wP o=ByteArray.empty:=by unfold wP;rw [aGr (by rw [h];simp)]
theorem Y7 (h:cK o=true):0<=o.K/\o.K<=6:=by
 exact ajS
theorem TU (w:World) (g:Nat) (K:Int) (h:0<=K/\K<=6) (hc:w.cell? ⟨g,0,none⟩=some (.int .u8 K)):(convert 162 9 (.slice (some ⟨g,0,none⟩) 1 1)).run prog w= .ok (.string (kb K)) w:=by
 exact azZ
theorem VF (K:Int) (h0:0<=K) (h6:K<=6):IntKind.u8.wrap K=K:=by
 have h3:K=0\/K=1\/K=2\/K=3\/K=4\/K=5\/K=6:=Aaa
 rcases h3 with rfl|rfl|rfl|rfl|rfl|rfl|rfl<;>rfl
theorem WI {w:World} {v0 v1 v2 v3 v4 v5 v6 v7 v8 v9 v10:Value} (h:w.heap[g]?=some (.cells #[v0,v1,v2,v3,v4,v5,v6,v7,v8,v9,v10] t (0,0))):
 w.cell? ⟨g,0,none⟩=some v0/\w.cell? ⟨g,1,none⟩=some v1/\w.cell? ⟨g,2,none⟩=some v2/\w.cell? ⟨g,3,none⟩=some v3/\w.cell? ⟨g,4,none⟩=some v4/\w.cell? ⟨g,5,none⟩=some v5/\w.cell? ⟨g,6,none⟩=some v6/\w.cell? ⟨g,7,none⟩=some v7/\w.cell? ⟨g,8,none⟩=some v8/\w.cell? ⟨g,9,none⟩=some v9/\w.cell? ⟨g,10,none⟩=some v10:=by
 exact aiG
end Go.Proofs.YtohmklmkjmlpjaaGreatDoor
