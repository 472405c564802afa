/- Parts. -/
import Derived.Test.YtohmklmkjmlpjaaGreatDoorRk7
import Derived.Test.YtohmklmkjmlpjaaGreatDoorRk4
namespace Go.Proofs.YtohmklmkjmlpjaaGreatDoor
open Go.Proofs.Tryz
set_option maxHeartbeats 4000000
set_option maxRecDepth 100000
open Go.RowKit
open Mth
variable (o:gK) (w:World) {g B g':Nat} {t:TypeId} {a0 a1 a2 a3 a4 a5 b4 b5 b6 a6 b7 b8 b9 b10 b0 b1 b2 b3 a7 a8 a9 Nj:Value} {m:Mg} {P:Program} {fn:Func} {Q:Ending->World->Prop} {x:Exit} {act:Act} {W:World}
theorem dD {w:World} {o:Obj} (h:w.heap[g]?=some o):g < w.heap.size:=by
 exact aan
theorem aK {w w':World} {o:Obj} (h:w.heap[g]?=some o) (hb:aI w w'):w'.heap[g]?=some o:=by
 rw [hb.block g (dD h)];exact h
theorem cells3 {w:World} (h:w.heap[g]?=some (.cells #[a0,a1,a2] t (0,0))):
 w.cell? ⟨g,0,none⟩=some a0/\w.cell? ⟨g,1,none⟩=some a1/\w.cell? ⟨g,2,none⟩=some a2:=by
 have hc:∀i,w.cell? ⟨g,i,none⟩=#[a0,a1,a2][i]?:=λi=>cell_of_row w g i _ t (0,0) h
 exact⟨hc 0,hc 1,hc 2⟩
theorem Kw {w:World} (h:w.heap[g]?=some (.cells #[a0,a1,a2,a3] t (0,0))):
 w.cell? ⟨g,0,none⟩=some a0/\w.cell? ⟨g,1,none⟩=some a1/\w.cell? ⟨g,2,none⟩=some a2/\w.cell? ⟨g,3,none⟩=some a3:=by
 have hc:∀i,w.cell? ⟨g,i,none⟩=#[a0,a1,a2,a3][i]?:=λi=>cell_of_row w g i _ t (0,0) h
 exact⟨hc 0,hc 1,hc 2,hc 3⟩
theorem Kz {w:World} (h:w.heap[g]?=some (.cells #[a0,a1,a2,a3,a4,a5] t (0,0))):
 w.cell? ⟨g,0,none⟩=some a0/\w.cell? ⟨g,1,none⟩=some a1/\w.cell? ⟨g,2,none⟩=some a2/\w.cell? ⟨g,3,none⟩=some a3/\w.cell? ⟨g,4,none⟩=some a4/\w.cell? ⟨g,5,none⟩=some a5:=by
 have hc:∀i,w.cell? ⟨g,i,none⟩=#[a0,a1,a2,a3,a4,a5][i]?:=λi=>cell_of_row w g i _ t (0,0) h
 exact⟨hc 0,hc 1,hc 2,hc 3,hc 4,hc 5⟩
theorem tC {w:World} (h:w.heap[g]?=some (.cells #[a0,a1,a2,a3,a4,a5,a6] t (0,0))):
 w.cell? ⟨g,0,none⟩=some a0/\w.cell? ⟨g,1,none⟩=some a1/\w.cell? ⟨g,2,none⟩=some a2/\w.cell? ⟨g,3,none⟩=some a3/\w.cell? ⟨g,4,none⟩=some a4/\w.cell? ⟨g,5,none⟩=some a5/\w.cell? ⟨g,6,none⟩=some a6:=by
 have hc:∀i,w.cell? ⟨g,i,none⟩=#[a0,a1,a2,a3,a4,a5,a6][i]?:=λi=>cell_of_row w g i _ t (0,0) h
 exact⟨hc 0,hc 1,hc 2,hc 3,hc 4,hc 5,hc 6⟩
theorem wF (F T:Int) (r:Bool) (w:World) (h:mh F T=r):Calls prog 341 #[.agg #[.int .i64 F,.int .i64 T]] w (eG w (.bool r)):=by
 subst h;cases h1:tY F
 case' false=>
  have HP:=Hq (show mh F T=false by simp[mh,h1]);have H1:=Hq (λw1=>isNode F false w1 h1);clear h1;exact ahT
 have H1:=Hq (λw1=>isNode F true w1 h1);cases h2:tY T
 case' false=>
  have HP:=Hq (show mh F T=false by simp[mh,h2])
  have H2:=Hq (λw1=>isNode T false w1 h2)
  open au3 in exact agM
 have H2:=Hq (λw1=>isNode T true w1 h2);by_cases hft:F=T
 case' pos=>
  have HP:=Hq (show mh F T=false by simp[mh,hft]);clear h1 h2;subst hft;exact ahT
 have HP:=Hq (show mh F T=true by simp[mh,h1,h2,hft]);have he:(F != T)=true:=by simp[hft]
 open au2 in exact agM
theorem MV (F T:Int) (k:ByteArray) (N:Int) (r:Bool) (w:World) (h:(mh F T&&keyOk k.data.toList&&fF N)=r):Calls prog 342 #[.agg #[.int .i64 F,.int .i64 T,.string k,.int .i64 N]] w (eG w (.bool r)):=by
 have HQ:=Hq h;clear h;cases hr:mh F T
 case' false=>
  have HP:=Hq (show(mh F T&&keyOk k.data.toList&&fF N)=false by simp[hr]);have HR:=Hq (λw1=>wF F T false w1 hr);clear hr;go_in
  go_wp2_with (first|(go_at_call 341;refine(HR _).mono ?_;rintro e w2 ⟨rfl,hb2⟩;have hA:=aK (heap_alloc_new w _) hb2;have hB:=(ay w _).trans (hb2.mono Aac);obtain⟨c0,c1,c2,c3⟩:=Kw hA;have hz:=dD hA;clear hA hb2))
  exact yX
 have HR:=Hq (λw1=>wF F T true w1 hr);cases hc0:keyOk k.data.toList
 case' false=>
  have HP:=Hq (show(mh F T&&keyOk k.data.toList&&fF N)=false by simp[hr,hc0]);have M0:=Hq (λw1=>iw k false w1 hc0);clear hr hc0;go_in
  go_wp2_with (first|(go_at_call 341;refine(HR _).mono ?_;rintro e w2 ⟨rfl,hb2⟩;have hA:=aK (heap_alloc_new w _) hb2;have hB:=(ay w _).trans (hb2.mono Aac);obtain⟨c0,c1,c2,c3⟩:=Kw hA;have hz:=dD hA;clear hA hb2)|(go_at_call_of 204 k;refine(M0 _).mono ?_;rintro e w1 ⟨rfl,rfl⟩))
  exact yX
 have M0:=Hq (λw1=>iw k true w1 hc0);cases hc1:fF N
 case' false=>
  have HP:=Hq (show(mh F T&&keyOk k.data.toList&&fF N)=false by simp[hr,hc0,hc1]);have Rk:=Hq (λw1=>aP N false w1 hc1);exact axy
 have Rk:=Hq (λw1=>aP N true w1 hc1);have HP:=Hq (show(mh F T&&keyOk k.data.toList&&fF N)=true by simp[hr,hc0,hc1]);exact axy
theorem aiU (F T I L:Int) (k:ByteArray) (N:Int) (r:Bool) (w:World) (h:(mh F T&&fF I&&decide (1<=L)&&decide (L<=I)&&keyOk k.data.toList&&fF N)=r):Calls prog 343 #[.agg #[.int .i64 F,.int .i64 T,.int .i64 I,.int .i64 L,.string k,.int .i64 N]] w (eG w (.bool r)):=by
 have HQ:=Hq h;clear h;cases hr:mh F T
 case' false=>
  have HP:=Hq (show(mh F T&&fF I&&decide (1<=L)&&decide (L<=I)&&keyOk k.data.toList&&fF N)=false by simp[hr]);have HR:=Hq (λw1=>wF F T false w1 hr);clear hr;go_in
  go_wp2_with (first|(go_at_call 341;refine(HR _).mono ?_;rintro e w2 ⟨rfl,hb2⟩;have hA:=aK (heap_alloc_new w _) hb2;have hB:=(ay w _).trans (hb2.mono Aac);obtain⟨c0,c1,c2,c3,c4,c5⟩:=Kz hA;have hz:=dD hA;clear hA hb2))
  exact yX
 have HR:=Hq (λw1=>wF F T true w1 hr);cases hc0:fF I
 case' false=>
  have HP:=Hq (show(mh F T&&fF I&&decide (1<=L)&&decide (L<=I)&&keyOk k.data.toList&&fF N)=false by simp[hr,hc0]);have M0:=Hq (λw1=>aP I false w1 hc0);exact ajP
 have M0:=Hq (λw1=>aP I true w1 hc0);by_cases hd1:1<=L
 case' neg=>
  have HP:=Hq (show(mh F T&&fF I&&decide (1<=L)&&decide (L<=I)&&keyOk k.data.toList&&fF N)=false by simp[hr,hc0,hd1]);exact ajP
 by_cases hd2:L<=I
 case' neg=>
  have HP:=Hq (show(mh F T&&fF I&&decide (1<=L)&&decide (L<=I)&&keyOk k.data.toList&&fF N)=false by simp[hr,hc0,hd1,hd2]);exact ajP
 cases hc1:keyOk k.data.toList
 case' false=>
  have HP:=Hq (show(mh F T&&fF I&&decide (1<=L)&&decide (L<=I)&&keyOk k.data.toList&&fF N)=false by simp[hr,hc0,hd1,hd2,hc1]);have Rk:=Hq (λw1=>iw k false w1 hc1);clear hr hc0 hc1;go_in
  go_wp2_with (first|(go_at_call 341;refine(HR _).mono ?_;rintro e w2 ⟨rfl,hb2⟩;have hA:=aK (heap_alloc_new w _) hb2;have hB:=(ay w _).trans (hb2.mono Aac);obtain⟨c0,c1,c2,c3,c4,c5⟩:=Kz hA;have hz:=dD hA;clear hA hb2)|(go_at_call_of 169 I;refine(M0 _).mono ?_;rintro e w1 ⟨rfl,rfl⟩)|(go_at_call_of 204 k;refine(Rk _).mono ?_;rintro e w1 ⟨rfl,rfl⟩))
  exact yX
 have Rk:=Hq (λw1=>iw k true w1 hc1);cases hc2:fF N
 case' false=>
  have HP:=Hq (show(mh F T&&fF I&&decide (1<=L)&&decide (L<=I)&&keyOk k.data.toList&&fF N)=false by simp[hr,hc0,hd1,hd2,hc1,hc2]);have Gj:=Hq (λw1=>aP N false w1 hc2);exact axr
 have Gj:=Hq (λw1=>aP N true w1 hc2);have HP:=Hq (show(mh F T&&fF I&&decide (1<=L)&&decide (L<=I)&&keyOk k.data.toList&&fF N)=true by simp[hr,hc0,hd1,hd2,hc1,hc2]);exact axr
theorem Ol (F T I:Int) (r:Bool) (w:World) (h:(mh F T&&fF I)=r):Calls prog 344 #[.agg #[.int .i64 F,.int .i64 T,.int .i64 I]] w (eG w (.bool r)):=by
 have HQ:=Hq h;clear h;cases hr:mh F T
 case' false=>
  have HP:=Hq (show(mh F T&&fF I)=false by simp[hr]);have HR:=Hq (λw1=>wF F T false w1 hr);clear hr;go_in
  go_wp2_with (first|(go_at_call 341;refine(HR _).mono ?_;rintro e w2 ⟨rfl,hb2⟩;have hA:=aK (heap_alloc_new w _) hb2;have hB:=(ay w _).trans (hb2.mono Aac);obtain⟨c0,c1,c2⟩:=cells3 hA;have hz:=dD hA;clear hA hb2))
  exact yX
 have HR:=Hq (λw1=>wF F T true w1 hr);cases hc0:fF I
 case' false=>
  have HP:=Hq (show(mh F T&&fF I)=false by simp[hr,hc0]);have M0:=Hq (λw1=>aP I false w1 hc0);exact axB
 have M0:=Hq (λw1=>aP I true w1 hc0);have HP:=Hq (show(mh F T&&fF I)=true by simp[hr,hc0]);exact axB
theorem aM {w:World} (h:w.heap[g]?=some (.cells #[a0,a1,a2,a3,a4,a5,a6,a7,a8,a9,Nj] t (0,0))):
 (w.cell? ⟨g,0,none⟩=some a0/\w.cell? ⟨g,1,none⟩=some a1/\w.cell? ⟨g,2,none⟩=some a2/\w.cell? ⟨g,3,none⟩=some a3/\w.cell? ⟨g,4,none⟩=some a4/\w.cell? ⟨g,5,none⟩=some a5/\w.cell? ⟨g,6,none⟩=some a6/\w.cell? ⟨g,7,none⟩=some a7/\w.cell? ⟨g,8,none⟩=some a8/\w.cell? ⟨g,9,none⟩=some a9/\w.cell? ⟨g,10,none⟩=some Nj)/\(w.frozen? ⟨g,0,none⟩=false/\w.frozen? ⟨g,1,none⟩=false/\w.frozen? ⟨g,2,none⟩=false/\w.frozen? ⟨g,3,none⟩=false/\w.frozen? ⟨g,4,none⟩=false/\w.frozen? ⟨g,5,none⟩=false/\w.frozen? ⟨g,6,none⟩=false/\w.frozen? ⟨g,7,none⟩=false/\w.frozen? ⟨g,8,none⟩=false/\w.frozen? ⟨g,9,none⟩=false/\w.frozen? ⟨g,10,none⟩=false):=by
 have hf:∀i,w.frozen? ⟨g,i,none⟩=false:=λi=>by unfold World.frozen?;rw [h];simp
 have hc:∀i,w.cell? ⟨g,i,none⟩=#[a0,a1,a2,a3,a4,a5,a6,a7,a8,a9,Nj][i]?:=λi=>cell_of_row w g i _ t (0,0) h
 exact⟨⟨hc 0,hc 1,hc 2,hc 3,hc 4,hc 5,hc 6,hc 7,hc 8,hc 9,hc 10⟩,hf 0,hf 1,hf 2,hf 3,hf 4,hf 5,hf 6,hf 7,hf 8,hf 9,hf 10⟩
theorem kU {w:World} (h:w.heap[g]?=some (.cells #[a0,a1,a2,a3,a4,a5,a6,a7,a8,a9,Nj] t (0,0))):(((((((((((w.setCell ⟨g,0,none⟩ b0).setCell ⟨g,1,none⟩ b1).setCell ⟨g,2,none⟩ b2).setCell ⟨g,3,none⟩ b3).setCell ⟨g,4,none⟩ b4).setCell ⟨g,5,none⟩ b5).setCell ⟨g,6,none⟩ b6).setCell ⟨g,7,none⟩ b7).setCell ⟨g,8,none⟩ b8).setCell ⟨g,9,none⟩ b9).setCell ⟨g,10,none⟩ b10).heap[g]?=some (.cells #[b0,b1,b2,b3,b4,b5,b6,b7,b8,b9,b10] t (0,0)):=
 GR.setW_blk [b0,b1,b2,b3,b4,b5,b6,b7,b8,b9,b10] (o:=0) (xs:=[a0,a1,a2,a3,a4,a5,a6,a7,a8,a9,Nj]) h
theorem iI {a w:World} (h:Below B a w) (hg:B<=g):Below B a (((((((((((w.setCell ⟨g,0,none⟩ b0).setCell ⟨g,1,none⟩ b1).setCell ⟨g,2,none⟩ b2).setCell ⟨g,3,none⟩ b3).setCell ⟨g,4,none⟩ b4).setCell ⟨g,5,none⟩ b5).setCell ⟨g,6,none⟩ b6).setCell ⟨g,7,none⟩ b7).setCell ⟨g,8,none⟩ b8).setCell ⟨g,9,none⟩ b9).setCell ⟨g,10,none⟩ b10):=
 GR.setW_below hg [b0,b1,b2,b3,b4,b5,b6,b7,b8,b9,b10] (o:=0) h
theorem OH {w:World} (h:w.heap[g]?=some (.cells #[a0,a1,a2,a3,a4,a5,a6,a7,a8,a9,Nj] t (0,0))):(((((((w.setCell ⟨g,4,none⟩ b4).setCell ⟨g,5,none⟩ b5).setCell ⟨g,6,none⟩ b6).setCell ⟨g,7,none⟩ b7).setCell ⟨g,8,none⟩ b8).setCell ⟨g,9,none⟩ b9).setCell ⟨g,10,none⟩ b10).heap[g]?=some (.cells #[a0,a1,a2,a3,b4,b5,b6,b7,b8,b9,b10] t (0,0)):=
 GR.setW_blk [b4,b5,b6,b7,b8,b9,b10] (o:=4) (xs:=[a0,a1,a2,a3,a4,a5,a6,a7,a8,a9,Nj]) h
theorem zi {a w:World} (h:Below B a w) (hg:B<=g):Below B a (((((((w.setCell ⟨g,4,none⟩ b4).setCell ⟨g,5,none⟩ b5).setCell ⟨g,6,none⟩ b6).setCell ⟨g,7,none⟩ b7).setCell ⟨g,8,none⟩ b8).setCell ⟨g,9,none⟩ b9).setCell ⟨g,10,none⟩ b10):=
 GR.setW_below hg [b4,b5,b6,b7,b8,b9,b10] (o:=4) h
theorem zk {w:World} (hne:g'≠g):(((((((w.setCell ⟨g,4,none⟩ b4).setCell ⟨g,5,none⟩ b5).setCell ⟨g,6,none⟩ b6).setCell ⟨g,7,none⟩ b7).setCell ⟨g,8,none⟩ b8).setCell ⟨g,9,none⟩ b9).setCell ⟨g,10,none⟩ b10).heap[g']?=w.heap[g']?:=
 GR.setW_other hne [b4,b5,b6,b7,b8,b9,b10] (o:=4)
theorem iB (h:∀W',W'=W->bodyPost P fn Q x act W'):bodyPost P fn Q x act W:=h W rfl
theorem ig (w:World) (a b:Obj):((w.alloc a).alloc b).heap[w.heap.size]?=some a/\((w.alloc a).alloc b).heap[w.heap.size+1]?=some b/\Below w.heap.size w ((w.alloc a).alloc b):=by
 have e1:(w.alloc a).heap.size=w.heap.size+1:=Aac
 have h4:=heap_alloc_new (w.alloc a) b;have h6:=Below.heap_alloc (w.alloc a) b w.heap.size Aaa;rw [e1] at h4;exact⟨h6.trans (heap_alloc_new w a),h4,(ay w a).alloc Aaa b⟩
theorem aaM (w:World) (a b c:Obj):(((w.alloc a).alloc b).alloc c).heap[w.heap.size]?=some a/\(((w.alloc a).alloc b).alloc c).heap[w.heap.size+1]?=some b/\(((w.alloc a).alloc b).alloc c).heap[w.heap.size+1+1]?=some c/\Below w.heap.size w (((w.alloc a).alloc b).alloc c):=by
 exact axp
open Go.WideShapes
theorem ai0 (m:Mg) (w:World):Calls prog 64 #[nK m] w (eG w (nK m)):=by
 obtain⟨K,F,T,I,L,k,N⟩:=m;go_in
 go_wp2_with fail;refine bodyPost_ret (v:= .agg (bV K F T I L k N)) (by simp[results,results64,go_sem]) rfl ⟨rfl,?_⟩;exact Vd
theorem acX (m:Mg) (z:Int) (w:World) (h0:0<=z) (h1:z<=1048576) (h2:m.k.size<=maxLen):Calls prog 44 #[nK m,.int .i64 z] w λe w'=>e= .returned (.int .i64 (if z - m.k.size < 0 then -1 else z - m.k.size))/\aI w w':=by
 obtain⟨K,F,T,I,L,k,N⟩:=m;dsimp only at h2;unfold maxLen at h2;by_cases hn:(z - k.size:Int) < 0
 all_goals
  go_in
  go_wp2_with fail
  go_ret
  exact⟨rfl,ay w _⟩
theorem aCM (o:gK) (z:Int) (w:World) (h0:0<=z) (h1:z<=1048576) (h2:o.k.size<=maxLen) (h3:o.m.k.size<=maxLen):Calls prog 99 #[jG o,.int .i64 z] w λe w'=>∃r:Int,e= .returned (.int .i64 r)/\(r= -1\/0<=r/\r<=z/\o.k.size<=1048576/\o.m.k.size<=1048576)/\aI w w':=by
 obtain⟨K,no,k,n,m⟩:=o;dsimp only at h2 h3;by_cases hn:(z - k.size:Int) < 0
 .obtain⟨mK,mF,mT,mI,mL,mk,mN⟩:=m;unfold maxLen at h2 h3;go_in
  go_wp2_with fail;go_ret;exact⟨_,rfl,.inl rfl,ay w _⟩
 .have HM:=Hq (λw1=>acX m (z - k.size) w1 Aaa Aaa h3);have hks:k.size<=1048576:=Aaa
  have hmz:m.k.size<=9223372036854775807:=by unfold maxLen at h3;omega
  obtain⟨mK,mF,mT,mI,mL,mk,mN⟩:=m;dsimp only at hmz HM;clear h2 h3;go_in
  go_wp2_with fail;refine(HM _).mono ?_;by_cases hn2:(z - k.size - mk.size:Int) < 0
  .rw [if_pos hn2];rintro e w1 ⟨rfl,hb1⟩;have HB:=Hq ((ay w _).trans (hb1.mono Aac));clear hb1 HM;go_wp2_with fail;go_ret;exact⟨_,rfl,.inl rfl,HB⟩
  .rw [if_neg hn2];rintro e w1 ⟨rfl,hb1⟩;have HB:=Hq ((ay w _).trans (hb1.mono Aac));clear hb1 HM;go_wp2_with fail;go_ret;exact⟨_,rfl,.inr ⟨Aaa,Aaa,hks,Aaa⟩,HB⟩
theorem Om (w:World) (a b c:Obj):(((w.alloc a).alloc b).alloc c).heap[w.heap.size]?=some a/\(((w.alloc a).alloc b).alloc c).heap[w.heap.size+1]?=some b/\(((w.alloc a).alloc b).alloc c).heap[w.heap.size+1+1]?=some c/\Below w.heap.size w (((w.alloc a).alloc b).alloc c):=by
 exact axp
theorem aCN:Calls prog 116 #[jG o] w (eG w (jG o)):=by
 obtain⟨K,no,k,n,m⟩:=o;have HT:=Hq (λw1=>ai0 m w1);obtain⟨mK,mF,mT,mI,mL,mk,mN⟩:=m;go_in
 go_wp2_with fail;refine(HT _).mono ?_;rintro e w1 ⟨rfl,hb1⟩;obtain⟨hP,hR,hO,hB⟩:=Om w (.cells (bZ K no k n mK mF mT mI mL mk mN) 85) (.cells (bZ 0 0 ⟨#[]⟩ 0 0 0 0 0 0 ⟨#[]⟩ 0) 100) (.cells (bZ K no k n 0 0 0 0 0 ⟨#[]⟩ 0) 100);have HR:=Hq (aK hR hb1);have HO:=Hq (aK hO hb1);have HB:=Hq (hB.trans (hb1.mono hB.size));clear hP hR hO hB hb1 HT;have hz1:=dD HR;have hz2:=dD HO;obtain⟨⟨o0,o1,o2,o3,o4,o5,o6,o7,o8,o9,o10⟩,f0,f1,f2,f3,f4,f5,f6,f7,f8,f9,f10⟩:=aM HO;go_upto_region 7 with fail;refine wp_at (λW hW=>?_);have HOW:Hid (W.heap[w.heap.size+1+1]?=some (.cells (bZ K no k n mK mF mT mI mL mk mN) 100 (0,0))):=by rw [hW];exact OH HO
 have HRW:Hid (W.heap[w.heap.size+1]?=some (.cells (bZ 0 0 ⟨#[]⟩ 0 0 0 0 0 0 ⟨#[]⟩ 0) 100 (0,0))):=by rw [hW];exact(zk Aaa).trans HR
 have iR:Hid (aI w W):=by rw [hW];exact zi HB Aaa
 clear hW HO HR HB hz1 hz2 o0 o1 o2 o3 o4 o5 o6 o7 o8 o9 o10 f0 f1 f2 f3 f4 f5 f6 f7 f8 f9 f10;have hz1:=dD HRW;have hz2:=dD HOW;obtain⟨⟨o0,o1,o2,o3,o4,o5,o6,o7,o8,o9,o10⟩,_⟩:=aM HOW;obtain⟨⟨r0,r1,r2,r3,r4,r5,r6,r7,r8,r9,YQ⟩,f0,f1,f2,f3,f4,f5,f6,f7,f8,f9,f10⟩:=aM HRW;go_wp2_with fail;refine iB (λW' hW'=>?_);have hRR:W'.heap[w.heap.size+1]?=some (.cells (bZ K no k n mK mF mT mI mL mk mN) 100 (0,0)):=by rw [hW'];exact kU HRW
 have hBB:aI w W':=by rw [hW'];exact iI iR Aaa
 obtain⟨⟨x0,x1,x2,x3,x4,x5,x6,x7,x8,x9,x10⟩,_⟩:=aM hRR;exact bodyPost_ret (v:= .agg (bZ K no k n mK mF mT mI mL mk mN)) (by simp[results,results116,go_sem,x0,x1,x2,x3,x4,x5,x6,x7,x8,x9,x10]) rfl ⟨rfl,hBB⟩
theorem eF {w:World} (h:w.heap[g]?=some (.cells #[a0,a1,a2,a3,a4,a5,a6] t (0,0))):
 (w.cell? ⟨g,0,none⟩=some a0/\w.cell? ⟨g,1,none⟩=some a1/\w.cell? ⟨g,2,none⟩=some a2/\w.cell? ⟨g,3,none⟩=some a3/\w.cell? ⟨g,4,none⟩=some a4/\w.cell? ⟨g,5,none⟩=some a5/\w.cell? ⟨g,6,none⟩=some a6)/\
  (w.frozen? ⟨g,0,none⟩=false/\w.frozen? ⟨g,1,none⟩=false/\w.frozen? ⟨g,2,none⟩=false/\w.frozen? ⟨g,3,none⟩=false/\w.frozen? ⟨g,4,none⟩=false/\w.frozen? ⟨g,5,none⟩=false/\w.frozen? ⟨g,6,none⟩=false):=by
 have hf:∀i,w.frozen? ⟨g,i,none⟩=false:=λi=>by unfold World.frozen?;rw [h];simp
 exact⟨tC h,hf 0,hf 1,hf 2,hf 3,hf 4,hf 5,hf 6⟩
theorem blk_set {w:World} {c:Nat} {cs:Array Value} (h:w.heap[c]?=some (.cells cs t (0,0))) (i:Nat) (v:Value):(w.setCell ⟨c,i,none⟩ v).heap[c]?=some (.cells (cs.setIfInBounds i v) t (0,0)):=by
 exact Ve
theorem one_other {w:World} {i:Nat} {v:Value} {o:Option Obj} (h:w.heap[g']?=o) (hne:g'≠g):(w.setCell ⟨g,i,none⟩ v).heap[g']?=o:=by rw [Below.heap_setCell _ _ _ _ hne,h]
theorem sG {w:World} (h:w.heap[g]?=some (.cells #[a0,a1,a2,a3,a4,a5,a6] t (0,0))):
 (((((((w.setCell ⟨g,0,none⟩ b0).setCell ⟨g,1,none⟩ b1).setCell ⟨g,2,none⟩ b2).setCell ⟨g,3,none⟩ b3).setCell ⟨g,4,none⟩ b4).setCell ⟨g,5,none⟩ b5).setCell ⟨g,6,none⟩ b6).heap[g]?=some (.cells #[b0,b1,b2,b3,b4,b5,b6] t (0,0)):=by
 have h0:(w.setCell ⟨g,0,none⟩ b0).heap[g]?=some (.cells #[b0,a1,a2,a3,a4,a5,a6] t (0,0)):=blk_set h 0 b0;have h1:((w.setCell ⟨g,0,none⟩ b0).setCell ⟨g,1,none⟩ b1).heap[g]?=some (.cells #[b0,b1,a2,a3,a4,a5,a6] t (0,0)):=blk_set h0 1 b1;have h2:(((w.setCell ⟨g,0,none⟩ b0).setCell ⟨g,1,none⟩ b1).setCell ⟨g,2,none⟩ b2).heap[g]?=some (.cells #[b0,b1,b2,a3,a4,a5,a6] t (0,0)):=blk_set h1 2 b2;have h3:((((w.setCell ⟨g,0,none⟩ b0).setCell ⟨g,1,none⟩ b1).setCell ⟨g,2,none⟩ b2).setCell ⟨g,3,none⟩ b3).heap[g]?=some (.cells #[b0,b1,b2,b3,a4,a5,a6] t (0,0)):=blk_set h2 3 b3;have h4:(((((w.setCell ⟨g,0,none⟩ b0).setCell ⟨g,1,none⟩ b1).setCell ⟨g,2,none⟩ b2).setCell ⟨g,3,none⟩ b3).setCell ⟨g,4,none⟩ b4).heap[g]?=some (.cells #[b0,b1,b2,b3,b4,a5,a6] t (0,0)):=blk_set h3 4 b4;have h5:((((((w.setCell ⟨g,0,none⟩ b0).setCell ⟨g,1,none⟩ b1).setCell ⟨g,2,none⟩ b2).setCell ⟨g,3,none⟩ b3).setCell ⟨g,4,none⟩ b4).setCell ⟨g,5,none⟩ b5).heap[g]?=some (.cells #[b0,b1,b2,b3,b4,b5,a6] t (0,0)):=blk_set h4 5 b5;have h6:(((((((w.setCell ⟨g,0,none⟩ b0).setCell ⟨g,1,none⟩ b1).setCell ⟨g,2,none⟩ b2).setCell ⟨g,3,none⟩ b3).setCell ⟨g,4,none⟩ b4).setCell ⟨g,5,none⟩ b5).setCell ⟨g,6,none⟩ b6).heap[g]?=some (.cells #[b0,b1,b2,b3,b4,b5,b6] t (0,0)):=blk_set h5 6 b6;exact h6
theorem qP {a w:World} (h:Below B a w) (hg:B<=g):
 Below B a (((((((w.setCell ⟨g,0,none⟩ b0).setCell ⟨g,1,none⟩ b1).setCell ⟨g,2,none⟩ b2).setCell ⟨g,3,none⟩ b3).setCell ⟨g,4,none⟩ b4).setCell ⟨g,5,none⟩ b5).setCell ⟨g,6,none⟩ b6):=
 ((((((h.setCell (p:=⟨g,0,none⟩) hg b0).setCell (p:=⟨g,1,none⟩) hg b1).setCell (p:=⟨g,2,none⟩) hg b2).setCell (p:=⟨g,3,none⟩) hg b3).setCell (p:=⟨g,4,none⟩) hg b4).setCell (p:=⟨g,5,none⟩) hg b5).setCell (p:=⟨g,6,none⟩) hg b6
theorem bodyPost_at (h:∀W',W'=W->bodyPost P fn Q x act W'):bodyPost P fn Q x act W:=h W rfl
def kb (K:Int):ByteArray:=⟨[UInt8.ofNat K.toNat].toArray⟩
def zM (m:Mg):ByteArray:=kb m.K++lU m.F++lU m.T++lU m.I++lU m.L++nW m.k++lU m.N
def jC (m:Mg):ByteArray:=if cZ m=true then zM m else ByteArray.empty
theorem yA (h:cZ m=true):jC m=zM m:=by unfold jC;rw [if_pos h]
theorem BD (h:cZ m=false):jC m=ByteArray.empty:=by unfold jC;rw [if_neg (by rw [h];simp)]
theorem aeG (h:cZ m=true):0<=m.K/\m.K<=2:=by
 unfold cZ at h;simp only[Bool.and_eq_true] at h;obtain⟨_,h⟩:=h;exact ahx
theorem Vt (K:Int):(kb K).size=1:=rfl
theorem WE (w:World) (g:Nat) (K:Int) (h:0<=K/\K<=2) (hc:w.cell? ⟨g,0,none⟩=some (.int .u8 K)):(convert 162 9 (.slice (some ⟨g,0,none⟩) 1 1)).run prog w= .ok (.string (kb K)) w:=by
 exact axK
def zT (o:gK):ByteArray:=kb o.K++lU o.no++nW o.k++lU o.n++nW (jC o.m)
def vJ (o:gK):ByteArray:=if cu o=true then zT o else ByteArray.empty
theorem BF {o:gK} (h:cu o=true):vJ o=zT o:=by unfold vJ;rw [if_pos h]
theorem Qd {o:gK} (h:cu o=false):vJ o=ByteArray.empty:=by unfold vJ;rw [if_neg (by rw [h];simp)]
theorem Xy {o:gK} (h:cu o=true):0<=o.K/\o.K<=6:=by
 exact aiK
theorem Sl (w:World) (g:Nat) (K:Int) (h:0<=K/\K<=6) (hc:w.cell? ⟨g,0,none⟩=some (.int .u8 K)):(convert 162 9 (.slice (some ⟨g,0,none⟩) 1 1)).run prog w= .ok (.string (kb K)) w:=by
 exact axK
theorem Ux (K:Int) (h0:0<=K) (h6:K<=6):IntKind.u8.wrap K=K:=by
 have h3:K=0\/K=1\/K=2\/K=3\/K=4\/K=5\/K=6:=Aaa
 rcases h3 with rfl|rfl|rfl|rfl|rfl|rfl|rfl<;>rfl
theorem Vl {w:World} {v0 v1 v2 v3 v4 v5 v6 v7 v8 v9 v10:Value} (h:w.heap[g]?=some (.cells #[v0,v1,v2,v3,v4,v5,v6,v7,v8,v9,v10] t (0,0))):
 w.cell? ⟨g,0,none⟩=some v0/\w.cell? ⟨g,1,none⟩=some v1/\w.cell? ⟨g,2,none⟩=some v2/\w.cell? ⟨g,3,none⟩=some v3/\w.cell? ⟨g,4,none⟩=some v4/\w.cell? ⟨g,5,none⟩=some v5/\w.cell? ⟨g,6,none⟩=some v6/\w.cell? ⟨g,7,none⟩=some v7/\w.cell? ⟨g,8,none⟩=some v8/\w.cell? ⟨g,9,none⟩=some v9/\w.cell? ⟨g,10,none⟩=some v10:=by
 exact ahw
theorem Iw (m:Mg) (w:World) (hs:m.k.size<=maxLen) (h:cZ m=false):Calls prog 141 #[nK m] w (eG w (.string ByteArray.empty)):=by
 have HO:=Hq (λw1=>jZ m w1 hs);rw [h] at HO;clear h hs;obtain⟨K,F,T,I,L,k,N⟩:=m;go_in
 exact ahB
theorem FU (m:Mg) (w:World) (hs:m.k.size<=maxLen) (h:cZ m=true):Calls prog 141 #[nK m] w (eG w (.string (zM m))):=by
 have hK:=aeG h;have HO:=Hq (λw1=>jZ m w1 hs);rw [h] at HO;clear h hs;obtain⟨K,F,T,I,L,k,N⟩:=m;obtain⟨hK0,hK2⟩:=hK;dsimp only at hK0 hK2
 have hw8:IntKind.u8.wrap K=K:=by
  have h3:K=0\/K=1\/K=2:=Aaa
  rcases h3 with rfl|rfl|rfl<;>rfl
 show Calls prog 141 #[nK ⟨K,F,T,I,L,k,N⟩] w (eG w (.string (kb K++lU F++lU T++lU I++lU L++nW k++lU N)))
 have N1:=Hq (λw1=>kW F w1);have N2:=Hq (λw1=>kW T w1);have N3:=Hq (λw1=>kW I w1);have N4:=Hq (λw1=>kW L w1);have N5:=Hq (λw1=>vO k w1);have N6:=Hq (λw1=>kW N w1);have s1:=mQ F;have s2:=mQ T;have s3:=mQ I;have s4:=mQ L;have s5:=BH k;have s6:=mQ N;have s0:=Vt K;have HCV:=Hq (λw1 g=>WE w1 g K ⟨hK0,hK2⟩);generalize lU F=bF at *;generalize lU T=bT at *;generalize lU I=bI at *;generalize lU L=bL at *;generalize nW k=bk at *;generalize lU N=bN at *;generalize kb K=bK at *;have a1:=λw1=>run_string_add_sum (P:=prog) w1 bK bF Aaa
 have a2:=λw1=>run_string_add_sum (P:=prog) w1 (bK++bF) bT (by rw [ByteArray.size_append];omega)
 have a3:=λw1=>run_string_add_sum (P:=prog) w1 (bK++bF++bT) bI Abn
 have a4:=λw1=>run_string_add_sum (P:=prog) w1 (bK++bF++bT++bI) bL Abn
 have a5:=λw1=>run_string_add_sum (P:=prog) w1 (bK++bF++bT++bI++bL) bk Abn
 have a6:=λw1=>run_string_add_sum (P:=prog) w1 (bK++bF++bT++bI++bL++bk) bN Abn
 have HA:=Hq (And.intro a1 (And.intro a2 (And.intro a3 (And.intro a4 (And.intro a5 a6)))));clear s0 s1 s2 s3 s4 s5 s6 a1 a2 a3 a4 a5 a6 hK0 hK2;go_in
 go_wp2_with fail;refine(HO _).mono ?_;rintro e w1 ⟨rfl,hb1⟩;have hA:=aK (heap_alloc_new w _) hb1;have hB:=(ay w _).trans (hb1.mono Aac);obtain⟨c0,c1,c2,c3,c4,c5,c6⟩:=tC hA;have hz:=dD hA;clear hb1;go_upto_region 3 with fail;refine wp_at (λV hV=>?_);have hblk:V.heap[w.heap.size]?=some (.cells (bV K F T I L k N) 98 (0,0)):=by rw [hV];exact hA
 have vU:=Hq (show aI w V by rw [hV];exact hB);have hgV:=dD hblk;obtain⟨p0,p1,p2,p3,p4,p5,p6⟩:=tC hblk;clear hV hblk hA hB c0 c1 c2 c3 c4 c5 c6 hz;open anl in exact N9
theorem FT (m:Mg) (w:World) (hs:m.k.size<=maxLen):Calls prog 141 #[nK m] w (eG w (.string (jC m))):=by
 cases h:cZ m
 .rw [BD h];exact Iw m w hs h
 .rw [yA h];exact FU m w hs h
theorem JZ (hs:o.k.size<=maxLen) (hm:o.m.k.size<=maxLen):Calls prog 142 #[jG o] w (eG w (.bool (cu o))):=by
 have HO:=Hq (λw1=>jr o w1 hs hm);generalize cu o=r at *;obtain⟨K,no,k,n,⟨mK,mF,mT,mI,mL,mk,mN⟩⟩:=o;go_in
 exact ahy
theorem Mv (hs:o.k.size<=maxLen) (hm:o.m.k.size<=maxLen) (h:cu o=false):Calls prog 104 #[jG o] w (eG w (.string ByteArray.empty)):=by
 have HO:=Hq (λw1=>JZ o w1 hs hm);rw [h] at HO;clear h hs hm;obtain⟨K,no,k,n,⟨mK,mF,mT,mI,mL,mk,mN⟩⟩:=o;go_in
 exact ahB
theorem Iz (hs:o.k.size<=maxLen) (hm:o.m.k.size<=maxLen) (h:cu o=true):Calls prog 104 #[jG o] w (eG w (.string (zT o))):=by
 have hK:=Xy h;have HO:=Hq (λw1=>JZ o w1 hs hm);have NM:=Hq (λw1=>FT o.m w1 hm);rw [h] at HO;clear h hs hm;obtain⟨K,no,k,n,m⟩:=o;obtain⟨hK0,hK6⟩:=hK;dsimp only at hK0 hK6 NM;have hw8:=Ux K hK0 hK6;show Calls prog 104 #[jG ⟨K,no,k,n,m⟩] w (eG w (.string (kb K++lU no++nW k++lU n++nW (jC m))))
 have N1:=Hq (λw1=>kW no w1);have N2:=Hq (λw1=>vO k w1);have N3:=Hq (λw1=>kW n w1);have N4:=Hq (λw1=>vO (jC m) w1);have s1:=mQ no;have s2:=BH k;have s3:=mQ n;have s4:=BH (jC m);have s0:=Vt K;have HCV:=Hq (λw1 g=>Sl w1 g K ⟨hK0,hK6⟩);generalize lU no=b1 at *;generalize nW k=b2 at *;generalize lU n=b3 at *;generalize nW (jC m)=b4 at *;generalize jC m=bM at *;generalize kb K=bK at *;obtain⟨mK,mF,mT,mI,mL,mk,mN⟩:=m;have a1:=λw1=>run_string_add_sum (P:=prog) w1 bK b1 Aaa
 have a2:=λw1=>run_string_add_sum (P:=prog) w1 (bK++b1) b2 Abn
 have a3:=λw1=>run_string_add_sum (P:=prog) w1 (bK++b1++b2) b3 Abn
 have a4:=λw1=>run_string_add_sum (P:=prog) w1 (bK++b1++b2++b3) b4 Abn
 have HA:=Hq (And.intro a1 (And.intro a2 (And.intro a3 a4)));clear s0 s1 s2 s3 s4 a1 a2 a3 a4 hK0 hK6;go_in
 go_wp2_with fail;refine(HO _).mono ?_;rintro e w1 ⟨rfl,hb1⟩;have hA:=aK (heap_alloc_new w _) hb1;have hB:=(ay w _).trans (hb1.mono Aac);obtain⟨c0,c1,c2,c3,c4,c5,c6,c7,c8,c9,c10⟩:=Vl hA;have hz:=dD hA;clear hb1;go_upto_region 3 with fail;refine wp_at (λV hV=>?_);have hblk:V.heap[w.heap.size]?=some (.cells (bZ K no k n mK mF mT mI mL mk mN) 100 (0,0)):=by rw [hV];exact hA
 have vU:=Hq (show aI w V by rw [hV];exact hB);have hgV:=dD hblk;obtain⟨p0,p1,p2,p3,p4,p5,p6,p7,p8,p9,nT⟩:=Vl hblk;clear hV hblk hA hB c0 c1 c2 c3 c4 c5 c6 c7 c8 c9 c10 hz;open anm in exact N9
theorem Yg (hs:o.k.size<=maxLen) (hm:o.m.k.size<=maxLen):Calls prog 104 #[jG o] w (eG w (.string (vJ o))):=by
 cases h:cu o
 .rw [Qd h];exact Mv o w hs hm h
 .rw [BF h];exact Iz o w hs hm h
def j6 (s:ByteArray):Nat:=65536*(sums s.data.toList).2+(sums s.data.toList).1
theorem MI (s:ByteArray):j6 s < 4294967296:=by
 have:=sums_lt s.data.toList;unfold j6;omega
def four (n:Nat):List UInt8:=[UInt8.ofNat (n / 16777216),UInt8.ofNat (n / 65536 % 256),UInt8.ofNat (n / 256 % 256),UInt8.ofNat (n % 256)]
def lX (n:Nat):ByteArray:=⟨(four n).toArray⟩
theorem Jl (w:World) (g n cap:Nat) (h:n < 4294967296) (c0:w.cell? ⟨g,0,none⟩=some (.int .u8 ((n:Int) / 16777216))) (c1:w.cell? ⟨g,1,none⟩=some (.int .u8 ((n:Int) / 65536 % 256))) (c2:w.cell? ⟨g,2,none⟩=some (.int .u8 ((n:Int) / 256 % 256))) (c3:w.cell? ⟨g,3,none⟩=some (.int .u8 ((n:Int) % 256))):
 (convert 162 9 (.slice (some ⟨g,0,none⟩) 4 cap)).run prog w= .ok (.string (lX n)) w:=by
 refine run_convert_bytes_back (P:=prog) w 162 9 5 ⟨g,0,none⟩ cap (four n) underlying162 underlying5 underlying9 ?_;intro j hj;have hj4:j < 4:=hj;have hcase:j=0\/j=1\/j=2\/j=3:=Aaa
 rcases hcase with rfl|rfl|rfl|rfl
 .show w.cell? ⟨g,0,none⟩=_
  rw [c0];simp only[four,List.getElem_cons_zero];rw [toNat_byte _ Aaa];rfl
 .show w.cell? ⟨g,1,none⟩=_
  rw [c1];simp only[four,List.getElem_cons_succ,List.getElem_cons_zero];rw [toNat_byte _ Aaa];rfl
 .show w.cell? ⟨g,2,none⟩=_
  rw [c2];simp only[four,List.getElem_cons_succ,List.getElem_cons_zero];rw [toNat_byte _ Aaa];rfl
 .show w.cell? ⟨g,3,none⟩=_
  rw [c3];simp only[four,List.getElem_cons_succ,List.getElem_cons_zero];rw [toNat_byte _ Aaa];rfl
theorem aeJ (n:Nat) (h:n < 4294967296) (w:World):Calls prog 55 #[.int .u32 n] w (eG w (.string (lX n))):=by
 have hcv:=Jl (w.alloc (.cells #[.int .u8 ((n:Int) / 16777216),.int .u8 ((n:Int) / 65536 % 256),.int .u8 ((n:Int) / 256 % 256),.int .u8 ((n:Int) % 256)] 5)) w.heap.size n 4 h Aac Aac Aac Aac;go_in
 go_wp2_with fail;go_ret;exact⟨rfl,ay w _⟩
theorem acU (s:ByteArray) (hs:s.size<=maxLen) (w:World):Calls prog 199 #[.string s] w λe w'=>∃g,e= .returned (.slice (some ⟨g,0,none⟩) 4 4)/\w.heap.size<=g/\w'.heap[g]?=some (.cells #[.int .u8 ((j6 s:Int) / 16777216),.int .u8 ((j6 s:Int) / 65536 % 256),.int .u8 ((j6 s:Int) / 256 % 256),.int .u8 ((j6 s:Int) % 256)] 5 (0,0))/\aI w w':=by
 have hn:=MI s;have HC:=Hq (λw1=>K8 s w1 hs);have e:(65536*(sums s.data.toList).2+(sums s.data.toList).1:Int)=(j6 s:Int):=by unfold j6;omega
 rw [e] at HC;clear e hs;generalize j6 s=n at *;go_in
 go_wp2_with fail;refine(HC _).mono ?_;rintro e w1 ⟨rfl,rfl⟩;go_wp2_with fail;go_ret;exact⟨w.heap.size,rfl,Nat.le_refl _,heap_alloc_new w _,ay w _⟩
end Go.Proofs.YtohmklmkjmlpjaaGreatDoor
