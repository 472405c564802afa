/- Parts. -/
import Derived.Test.YtohmklmkjmlpjaaGreatDoorRk9
import Derived.Test.YtohmklmkjmlpjaaGreatDoorRk8
import Derived.Test.YtohmklmkjmlpjaaGreatDoorRk5
namespace Go.Proofs.YtohmklmkjmlpjaaGreatDoor
open Go.Proofs.Tryz
set_option maxHeartbeats 4000000
open Go.RowKit
open Mth
variable (F:Int) (T:Int) (I:Int) (L:Int) (k:ByteArray) (N:Int) (w:World) {s:ByteArray} {g B:Nat} {b4 b5 b6 b7 b8 b9 b10 a0 a1 a2 a3 a4 a5 a6 a7 a8 a9 Nq:Value} {t:TypeId} {m:Mg} {o:gQ}
theorem aO {w:World} (h:w.heap[g]?=some (.cells #[a0,a1,a2,a3,a4,a5,a6,a7,a8,a9,Nq] t (0,0))):
 (w.cell? ⟨g,0,none⟩=some a0/\w.cell? ⟨g,1,none⟩=some a1/\w.cell? ⟨g,2,none⟩=some a2/\w.cell? ⟨g,3,none⟩=some a3/\w.cell? ⟨g,4,none⟩=some a4/\w.cell? ⟨g,5,none⟩=some a5/\w.cell? ⟨g,6,none⟩=some a6/\w.cell? ⟨g,7,none⟩=some a7/\w.cell? ⟨g,8,none⟩=some a8/\w.cell? ⟨g,9,none⟩=some a9/\w.cell? ⟨g,10,none⟩=some Nq)/\(w.frozen? ⟨g,0,none⟩=false/\w.frozen? ⟨g,1,none⟩=false/\w.frozen? ⟨g,2,none⟩=false/\w.frozen? ⟨g,3,none⟩=false/\w.frozen? ⟨g,4,none⟩=false/\w.frozen? ⟨g,5,none⟩=false/\w.frozen? ⟨g,6,none⟩=false/\w.frozen? ⟨g,7,none⟩=false/\w.frozen? ⟨g,8,none⟩=false/\w.frozen? ⟨g,9,none⟩=false/\w.frozen? ⟨g,10,none⟩=false):=by
 have hf:∀i,w.frozen? ⟨g,i,none⟩=false:=λi=>by unfold World.frozen?;rw [h];simp
 have hc:∀i,w.cell? ⟨g,i,none⟩=#[a0,a1,a2,a3,a4,a5,a6,a7,a8,a9,Nq][i]?:=λi=>cell_of_row w g i _ t (0,0) h
 exact⟨⟨hc 0,hc 1,hc 2,hc 3,hc 4,hc 5,hc 6,hc 7,hc 8,hc 9,hc 10⟩,hf 0,hf 1,hf 2,hf 3,hf 4,hf 5,hf 6,hf 7,hf 8,hf 9,hf 10⟩
theorem lq {w:World} {b0 b1 b2 b3:Value} (h:w.heap[g]?=some (.cells #[a0,a1,a2,a3,a4,a5,a6,a7,a8,a9,Nq] t (0,0))):(((((((((((w.setCell ⟨g,0,none⟩ b0).setCell ⟨g,1,none⟩ b1).setCell ⟨g,2,none⟩ b2).setCell ⟨g,3,none⟩ b3).setCell ⟨g,4,none⟩ b4).setCell ⟨g,5,none⟩ b5).setCell ⟨g,6,none⟩ b6).setCell ⟨g,7,none⟩ b7).setCell ⟨g,8,none⟩ b8).setCell ⟨g,9,none⟩ b9).setCell ⟨g,10,none⟩ b10).heap[g]?=some (.cells #[b0,b1,b2,b3,b4,b5,b6,b7,b8,b9,b10] t (0,0)):=
 GR.setW_blk [b0,b1,b2,b3,b4,b5,b6,b7,b8,b9,b10] (o:=0) (xs:=[a0,a1,a2,a3,a4,a5,a6,a7,a8,a9,Nq]) h
theorem iJ {a w:World} {b0 b1 b2 b3:Value} (h:Below B a w) (hg:B<=g):Below B a (((((((((((w.setCell ⟨g,0,none⟩ b0).setCell ⟨g,1,none⟩ b1).setCell ⟨g,2,none⟩ b2).setCell ⟨g,3,none⟩ b3).setCell ⟨g,4,none⟩ b4).setCell ⟨g,5,none⟩ b5).setCell ⟨g,6,none⟩ b6).setCell ⟨g,7,none⟩ b7).setCell ⟨g,8,none⟩ b8).setCell ⟨g,9,none⟩ b9).setCell ⟨g,10,none⟩ b10):=
 GR.setW_below hg [b0,b1,b2,b3,b4,b5,b6,b7,b8,b9,b10] (o:=0) h
theorem OW {w:World} (h:w.heap[g]?=some (.cells #[a0,a1,a2,a3,a4,a5,a6,a7,a8,a9,Nq] t (0,0))):(((((((w.setCell ⟨g,4,none⟩ b4).setCell ⟨g,5,none⟩ b5).setCell ⟨g,6,none⟩ b6).setCell ⟨g,7,none⟩ b7).setCell ⟨g,8,none⟩ b8).setCell ⟨g,9,none⟩ b9).setCell ⟨g,10,none⟩ b10).heap[g]?=some (.cells #[a0,a1,a2,a3,b4,b5,b6,b7,b8,b9,b10] t (0,0)):=
 GR.setW_blk [b4,b5,b6,b7,b8,b9,b10] (o:=4) (xs:=[a0,a1,a2,a3,a4,a5,a6,a7,a8,a9,Nq]) h
theorem zo {a w:World} (h:Below B a w) (hg:B<=g):Below B a (((((((w.setCell ⟨g,4,none⟩ b4).setCell ⟨g,5,none⟩ b5).setCell ⟨g,6,none⟩ b6).setCell ⟨g,7,none⟩ b7).setCell ⟨g,8,none⟩ b8).setCell ⟨g,9,none⟩ b9).setCell ⟨g,10,none⟩ b10):=
 GR.setW_below hg [b4,b5,b6,b7,b8,b9,b10] (o:=4) h
theorem zq {w:World} {g':Nat} (hne:g'≠g):(((((((w.setCell ⟨g,4,none⟩ b4).setCell ⟨g,5,none⟩ b5).setCell ⟨g,6,none⟩ b6).setCell ⟨g,7,none⟩ b7).setCell ⟨g,8,none⟩ b8).setCell ⟨g,9,none⟩ b9).setCell ⟨g,10,none⟩ b10).heap[g']?=w.heap[g']?:=
 GR.setW_other hne [b4,b5,b6,b7,b8,b9,b10] (o:=4)
theorem iH {P:Program} {fn:Func} {Q:Ending->World->Prop} {x:Exit} {act:Act} {W:World} (h:∀W',W'=W->bodyPost P fn Q x act W'):bodyPost P fn Q x act W:=h W rfl
theorem iA (w:World) (a b:Obj):((w.alloc a).alloc b).heap[w.heap.size]?=some a/\((w.alloc a).alloc b).heap[w.heap.size+1]?=some b/\Below w.heap.size w ((w.alloc a).alloc b):=by
 have e1:(w.alloc a).heap.size=w.heap.size+1:=Aac
 have h4:=heap_alloc_new (w.alloc a) b;have h6:=Below.heap_alloc (w.alloc a) b w.heap.size Aaa;rw [e1] at h4;exact⟨h6.trans (heap_alloc_new w a),h4,(ay w a).alloc Aaa b⟩
theorem abo (w:World) (a b c:Obj):(((w.alloc a).alloc b).alloc c).heap[w.heap.size]?=some a/\(((w.alloc a).alloc b).alloc c).heap[w.heap.size+1]?=some b/\(((w.alloc a).alloc b).alloc c).heap[w.heap.size+1+1]?=some c/\Below w.heap.size w (((w.alloc a).alloc b).alloc c):=by
 exact aBy
set_option maxRecDepth 100000
open Go.WideShapes
open Mth
theorem adu (m:Mg) (z:Int) (w:World) (h0:0<=z) (h1:z<=1048576) (h2:m.k.size<=maxLen):Calls prog 44 #[mY m,.int .i64 z] w λe w'=>e= .returned (.int .i64 (if z - m.k.size < 0 then -1 else z - m.k.size))/\aI w w':=by
 obtain⟨K,F,T,I,L,k,N⟩:=m;dsimp only at h2;unfold maxLen at h2;by_cases hn:(z - k.size:Int) < 0
 all_goals
  go_in
  go_wp2_with fail
  go_ret
  exact⟨rfl,ay w _⟩
theorem aGI (o:gQ) (z:Int) (w:World) (h0:0<=z) (h1:z<=1048576) (h2:o.k.size<=maxLen) (h3:o.m.k.size<=maxLen):Calls prog 99 #[jJ o,.int .i64 z] w λe w'=>∃r:Int,e= .returned (.int .i64 r)/\(r= -1\/0<=r/\r<=z/\o.k.size<=1048576/\o.m.k.size<=1048576)/\aI w w':=by
 obtain⟨K,no,k,n,m⟩:=o;dsimp only at h2 h3;by_cases hn:(z - k.size:Int) < 0
 .obtain⟨mK,mF,mT,mI,mL,mk,mN⟩:=m;unfold maxLen at h2 h3;go_in
  go_wp2_with fail;go_ret;exact⟨_,rfl,.inl rfl,ay w _⟩
 .have HM:=Hq (λw1=>adu m (z - k.size) w1 Aaa Aaa h3);have hks:k.size<=1048576:=Aaa
  have hmz:m.k.size<=9223372036854775807:=by unfold maxLen at h3;omega
  obtain⟨mK,mF,mT,mI,mL,mk,mN⟩:=m;dsimp only at hmz HM;clear h2 h3;go_in
  go_wp2_with fail;refine(HM _).mono ?_;by_cases hn2:(z - k.size - mk.size:Int) < 0
  .rw [if_pos hn2];rintro e w1 ⟨rfl,hb1⟩;have HB:=Hq ((ay w _).trans (hb1.mono Aac));clear hb1 HM;go_wp2_with fail;go_ret;exact⟨_,rfl,.inl rfl,HB⟩
  .rw [if_neg hn2];rintro e w1 ⟨rfl,hb1⟩;have HB:=Hq ((ay w _).trans (hb1.mono Aac));clear hb1 HM;go_wp2_with fail;go_ret;exact⟨_,rfl,.inr ⟨Aaa,Aaa,hks,Aaa⟩,HB⟩
theorem OG (w:World) (a b c:Obj):(((w.alloc a).alloc b).alloc c).heap[w.heap.size]?=some a/\(((w.alloc a).alloc b).alloc c).heap[w.heap.size+1]?=some b/\(((w.alloc a).alloc b).alloc c).heap[w.heap.size+1+1]?=some c/\Below w.heap.size w (((w.alloc a).alloc b).alloc c):=by
 exact aBy
theorem aGJ (o:gQ) (w:World):Calls prog 116 #[jJ o] w (eO w (jJ o)):=by
 obtain⟨K,no,k,n,m⟩:=o;have HT:=Hq (λw1=>akg m w1);obtain⟨mK,mF,mT,mI,mL,mk,mN⟩:=m;go_in
 go_wp2_with fail;refine(HT _).mono ?_;rintro e w1 ⟨rfl,hb1⟩;obtain⟨hP,hR,hO,hB⟩:=OG w (.cells (bY K no k n mK mF mT mI mL mk mN) 85) (.cells (bY 0 0 ⟨#[]⟩ 0 0 0 0 0 0 ⟨#[]⟩ 0) 100) (.cells (bY K no k n 0 0 0 0 0 ⟨#[]⟩ 0) 100);have HR:=Hq (aN hR hb1);have HO:=Hq (aN hO hb1);have HB:=Hq (hB.trans (hb1.mono hB.size));clear hP hR hO hB hb1 HT;have hz1:=dG HR;have hz2:=dG HO;obtain⟨⟨o0,o1,o2,o3,o4,o5,o6,o7,o8,o9,o10⟩,f0,f1,f2,f3,f4,f5,f6,f7,f8,f9,f10⟩:=aO HO;go_upto_region 7 with fail;refine wp_at (λW hW=>?_);have HOW:Hid (W.heap[w.heap.size+1+1]?=some (.cells (bY K no k n mK mF mT mI mL mk mN) 100 (0,0))):=by rw [hW];exact OW HO
 have HRW:Hid (W.heap[w.heap.size+1]?=some (.cells (bY 0 0 ⟨#[]⟩ 0 0 0 0 0 0 ⟨#[]⟩ 0) 100 (0,0))):=by rw [hW];exact(zq Aaa).trans HR
 have iR:Hid (aI w W):=by rw [hW];exact zo HB Aaa
 clear hW HO HR HB hz1 hz2 o0 o1 o2 o3 o4 o5 o6 o7 o8 o9 o10 f0 f1 f2 f3 f4 f5 f6 f7 f8 f9 f10;have hz1:=dG HRW;have hz2:=dG HOW;obtain⟨⟨o0,o1,o2,o3,o4,o5,o6,o7,o8,o9,o10⟩,_⟩:=aO HOW;obtain⟨⟨r0,r1,r2,r3,r4,r5,r6,r7,r8,r9,Zt⟩,f0,f1,f2,f3,f4,f5,f6,f7,f8,f9,f10⟩:=aO HRW;go_wp2_with fail;refine iH (λW' hW'=>?_);have hRR:W'.heap[w.heap.size+1]?=some (.cells (bY K no k n mK mF mT mI mL mk mN) 100 (0,0)):=by rw [hW'];exact lq HRW
 have hBB:aI w W':=by rw [hW'];exact iJ iR Aaa
 obtain⟨⟨x0,x1,x2,x3,x4,x5,x6,x7,x8,x9,x10⟩,_⟩:=aO hRR;exact bodyPost_ret (v:= .agg (bY K no k n mK mF mT mI mL mk mN)) (by simp[results,results116,go_sem,x0,x1,x2,x3,x4,x5,x6,x7,x8,x9,x10]) rfl ⟨rfl,hBB⟩
def wB (m:Mg):Value:=
 if m.K=0 then .iface 282 (.agg #[.int .i64 m.F,.int .i64 m.T,.string m.k,.int .i64 m.N])
 else if m.K=1 then .iface 284 (.agg #[.int .i64 m.F,.int .i64 m.T,.int .i64 m.I,.int .i64 m.L,.string m.k,.int .i64 m.N])
 else if m.K=2 then .iface 286 (.agg #[.int .i64 m.F,.int .i64 m.T,.int .i64 m.I])
 else .nilIface
theorem VU (v:Value) (w:World):(method 501 282 v "loop.example/g00264/impl.ok").run prog w= .ok (342,v) w:=Aab
theorem acM (v:Value) (w:World):(method 501 284 v "loop.example/g00264/impl.ok").run prog w= .ok (343,v) w:=Aab
theorem acL (v:Value) (w:World):(method 501 286 v "loop.example/g00264/impl.ok").run prog w= .ok (344,v) w:=Aab
theorem zO (hr:(mJ F T&&keyOk k.data.toList&&fK N)=false):Calls prog 234 #[mY ⟨0,F,T,I,L,k,N⟩] w (eO w (.tuple #[wB ⟨0,F,T,I,L,k,N⟩,.bool (dw ⟨0,F,T,I,L,k,N⟩)])):=by
 have HP:=Hq (show dw ⟨0,F,T,I,L,k,N⟩=false by simp only[Bool.and_eq_false_iff] at hr;rcases hr with(h|h)|h<;>simp[dw,h]);have HO:=Hq (λw1=>M8 F T k N false w1 hr);open ate in exact xq
theorem zN (hr:(mJ F T&&keyOk k.data.toList&&fK N)=true) (hI:¬0=I):Calls prog 234 #[mY ⟨0,F,T,I,L,k,N⟩] w (eO w (.tuple #[wB ⟨0,F,T,I,L,k,N⟩,.bool (dw ⟨0,F,T,I,L,k,N⟩)])):=by
 have HP:=Hq (show dw ⟨0,F,T,I,L,k,N⟩=false by simp only[Bool.and_eq_true] at hr;obtain⟨⟨h1,h2⟩,h3⟩:=hr;simp[dw,h1,h2,h3,Ne.symm hI]);have HO:=Hq (λw1=>M8 F T k N true w1 hr);have HM:=Hq (λw1=>yt F T k N w1);open atd in exact xq
theorem yh (F:Int) (T:Int) (L:Int) (k:ByteArray) (N:Int) (w:World) (hr:(mJ F T&&keyOk k.data.toList&&fK N)=true) (hL:¬0=L):Calls prog 234 #[mY ⟨0,F,T,0,L,k,N⟩] w (eO w (.tuple #[wB ⟨0,F,T,0,L,k,N⟩,.bool (dw ⟨0,F,T,0,L,k,N⟩)])):=by
 have HP:=Hq (show dw ⟨0,F,T,0,L,k,N⟩=false by simp only[Bool.and_eq_true] at hr;obtain⟨⟨h1,h2⟩,h3⟩:=hr;simp[dw,h1,h2,h3,Ne.symm hL]);have HO:=Hq (λw1=>M8 F T k N true w1 hr);have HM:=Hq (λw1=>yt F T k N w1);open atc in exact xq
theorem yj (F:Int) (T:Int) (k:ByteArray) (N:Int) (w:World) (hr:(mJ F T&&keyOk k.data.toList&&fK N)=true):Calls prog 234 #[mY ⟨0,F,T,0,0,k,N⟩] w (eO w (.tuple #[wB ⟨0,F,T,0,0,k,N⟩,.bool (dw ⟨0,F,T,0,0,k,N⟩)])):=by
 have HP:=Hq (show dw ⟨0,F,T,0,0,k,N⟩=true by simp only[Bool.and_eq_true] at hr;obtain⟨⟨h1,h2⟩,h3⟩:=hr;simp[dw,h1,h2,h3]);have HO:=Hq (λw1=>M8 F T k N true w1 hr);have HM:=Hq (λw1=>yt F T k N w1);open atb in exact xq
theorem BG (hr:(mJ F T&&fK I&&decide (1<=L)&&decide (L<=I)&&keyOk k.data.toList&&fK N)=false):Calls prog 234 #[mY ⟨1,F,T,I,L,k,N⟩] w (eO w (.tuple #[wB ⟨1,F,T,I,L,k,N⟩,.bool (dw ⟨1,F,T,I,L,k,N⟩)])):=by
 have HP:=Hq (show dw ⟨1,F,T,I,L,k,N⟩=false by simp only[Bool.and_eq_false_iff,decide_eq_false_iff_not] at hr;rcases hr with((((h|h)|h)|h)|h)|h<;>simp[dw,h]<;>omega);have HO:=Hq (λw1=>aj9 F T I L k N false w1 hr);open ata in exact xq
theorem zM (hr:(mJ F T&&fK I&&decide (1<=L)&&decide (L<=I)&&keyOk k.data.toList&&fK N)=true):Calls prog 234 #[mY ⟨1,F,T,I,L,k,N⟩] w (eO w (.tuple #[wB ⟨1,F,T,I,L,k,N⟩,.bool (dw ⟨1,F,T,I,L,k,N⟩)])):=by
 have HP:=Hq (show dw ⟨1,F,T,I,L,k,N⟩=true by simp only[Bool.and_eq_true,decide_eq_true_iff] at hr;obtain⟨⟨⟨⟨⟨h1,h2⟩,h3⟩,h4⟩,h5⟩,h6⟩:=hr;simp[dw,h1,h2,h3,h4,h5,h6]);have HO:=Hq (λw1=>aj9 F T I L k N true w1 hr);have HM:=Hq (λw1=>XY F T I L k N w1);open as9 in exact xq
theorem BF (hr:(mJ F T&&fK I)=false):Calls prog 234 #[mY ⟨2,F,T,I,L,k,N⟩] w (eO w (.tuple #[wB ⟨2,F,T,I,L,k,N⟩,.bool (dw ⟨2,F,T,I,L,k,N⟩)])):=by
 have HP:=Hq (show dw ⟨2,F,T,I,L,k,N⟩=false by simp only[Bool.and_eq_false_iff] at hr;rcases hr with h|h<;>simp[dw,h]);have HO:=Hq (λw1=>OE F T I false w1 hr);open as8 in exact xq
theorem zK (hr:(mJ F T&&fK I)=true) (hL:¬0=L):Calls prog 234 #[mY ⟨2,F,T,I,L,k,N⟩] w (eO w (.tuple #[wB ⟨2,F,T,I,L,k,N⟩,.bool (dw ⟨2,F,T,I,L,k,N⟩)])):=by
 have HP:=Hq (show dw ⟨2,F,T,I,L,k,N⟩=false by simp only[Bool.and_eq_true] at hr;obtain⟨h1,h2⟩:=hr;simp[dw,h1,h2,Ne.symm hL]);have HO:=Hq (λw1=>OE F T I true w1 hr);have HM:=Hq (λw1=>wF F T I w1);open as7 in exact xq
theorem zJ (F:Int) (T:Int) (I:Int) (k:ByteArray) (N:Int) (w:World) (hr:(mJ F T&&fK I)=true) (hk:¬k.size=0):Calls prog 234 #[mY ⟨2,F,T,I,0,k,N⟩] w (eO w (.tuple #[wB ⟨2,F,T,I,0,k,N⟩,.bool (dw ⟨2,F,T,I,0,k,N⟩)])):=by
 have HP:=Hq (show dw ⟨2,F,T,I,0,k,N⟩=false by simp only[Bool.and_eq_true] at hr;obtain⟨h1,h2⟩:=hr;simp[dw,h1,h2,hk]);have HO:=Hq (λw1=>OE F T I true w1 hr);have HM:=Hq (λw1=>wF F T I w1);clear hr;have hne:¬k.toList=[]:=by rw [ByteArray.toList_eq];intro h;have:=bE k;rw [h] at this;simp at this;omega
 have hne2:¬[]=k.toList:=λh=>hne h.symm
 clear hk;go_in
 go_upto_region 11 with fail;refine wp_at (λV hV=>?_);have hblk:V.heap[w.heap.size]?=some (.cells (bX 2 F T I 0 k N) 98 (0,0)):=by rw [hV,Below.heap_alloc _ _ _ Aac];exact heap_alloc_new w _
 open aEl in exact Yk6
theorem Dl (F:Int) (T:Int) (I:Int) (N:Int) (w:World) (hr:(mJ F T&&fK I)=true) (hN:¬0=N):Calls prog 234 #[mY ⟨2,F,T,I,0,ByteArray.empty,N⟩] w (eO w (.tuple #[wB ⟨2,F,T,I,0,ByteArray.empty,N⟩,.bool (dw ⟨2,F,T,I,0,ByteArray.empty,N⟩)])):=by
 have HP:=Hq (show dw ⟨2,F,T,I,0,ByteArray.empty,N⟩=false by simp only[Bool.and_eq_true] at hr;obtain⟨h1,h2⟩:=hr;simp[dw,h1,h2,Ne.symm hN]);have HO:=Hq (λw1=>OE F T I true w1 hr);have HM:=Hq (λw1=>wF F T I w1);open as6 in exact xq
theorem zL (F:Int) (T:Int) (I:Int) (w:World) (hr:(mJ F T&&fK I)=true):Calls prog 234 #[mY ⟨2,F,T,I,0,ByteArray.empty,0⟩] w (eO w (.tuple #[wB ⟨2,F,T,I,0,ByteArray.empty,0⟩,.bool (dw ⟨2,F,T,I,0,ByteArray.empty,0⟩)])):=by
 have HP:=Hq (show dw ⟨2,F,T,I,0,ByteArray.empty,0⟩=true by simp only[Bool.and_eq_true] at hr;obtain⟨h1,h2⟩:=hr;simp[dw,h1,h2]);have HO:=Hq (λw1=>OE F T I true w1 hr);have HM:=Hq (λw1=>wF F T I w1);open as5 in exact xq
theorem Fg (K F T I L:Int) (k:ByteArray) (N:Int) (w:World) (k0:¬K=0) (k1:¬K=1) (k2:¬K=2):Calls prog 234 #[mY ⟨K,F,T,I,L,k,N⟩] w (eO w (.tuple #[wB ⟨K,F,T,I,L,k,N⟩,.bool (dw ⟨K,F,T,I,L,k,N⟩)])):=by
 have HP:=Hq (show dw ⟨K,F,T,I,L,k,N⟩=false by simp[dw,k0,k1,k2]);have HV:=Hq (show wB ⟨K,F,T,I,L,k,N⟩= .nilIface by simp[wB,k0,k1,k2]);go_in
 go_wp2_with fail;exact bodyPost_ret (v:= .tuple #[.nilIface,.bool false]) (by simp[results,results234,go_sem]) rfl ⟨by rw [ah HP,ah HV],((Below.refl _ _).alloc (Nat.le_refl _) _).alloc Aac _⟩
theorem XW (m:Mg) (w:World):Calls prog 234 #[mY m] w (eO w (.tuple #[wB m,.bool (dw m)])):=by
 obtain⟨K,F,T,I,L,k,N⟩:=m;by_cases k0:K=0
 .subst k0;cases hr:(mJ F T&&keyOk k.data.toList&&fK N)
  .exact zO F T I L k N w hr
  by_cases hI:0=I
  .subst hI;by_cases hL:0=L
   .subst hL;exact yj F T k N w hr
   .exact yh F T L k N w hr hL
  .exact zN F T I L k N w hr hI
 by_cases k1:K=1
 .subst k1;cases hr:(mJ F T&&fK I&&decide (1<=L)&&decide (L<=I)&&keyOk k.data.toList&&fK N)
  .exact BG F T I L k N w hr
  .exact zM F T I L k N w hr
 by_cases k2:K=2
 .subst k2;cases hr:(mJ F T&&fK I)
  .exact BF F T I L k N w hr
  by_cases hL:0=L
  .subst hL;by_cases hk:k.size=0
   .obtain rfl:=eq_empty k hk;by_cases hN:0=N
    .subst hN;exact zL F T I w hr
    .exact Dl F T I N w hr hN
   .exact zJ F T I k N w hr hk
  .exact zK F T I L k N w hr hL
 exact Fg K F T I L k N w k0 k1 k2
theorem Jt (m:Mg) (w:World):Calls prog 208 #[mY m] w (eO w (.bool (dw m))):=by
 have HM:=Hq (λw1=>XW m w1);generalize dw m=r at *;generalize wB m=v at *;obtain⟨K,F,T,I,L,k,N⟩:=m;go_in
 go_wp2_with fail;refine(HM _).mono ?_;rintro e w1 ⟨rfl,hb1⟩;go_wp2
 go_ret;exact⟨rfl,(ay w _).trans (hb1.mono Aac)⟩
def kb (K:Int):ByteArray:=⟨[UInt8.ofNat K.toNat].toArray⟩
def zP (m:Mg):ByteArray:=kb m.K++l7 m.F++l7 m.T++l7 m.I++l7 m.L++og m.k++l7 m.N
def jF (m:Mg):ByteArray:=if dw m=true then zP m else ByteArray.empty
theorem yB (h:dw m=true):jF m=zP m:=by unfold jF;rw [if_pos h]
theorem BJ (h:dw m=false):jF m=ByteArray.empty:=by unfold jF;rw [if_neg (by rw [h];simp)]
theorem afj (h:dw m=true):0<=m.K/\m.K<=2:=by
 unfold dw at h;simp only[Bool.and_eq_true] at h;obtain⟨_,h⟩:=h;exact aiR
theorem VQ (K:Int):(kb K).size=1:=rfl
theorem Xi (w:World) (g:Nat) (K:Int) (h:0<=K/\K<=2) (hc:w.cell? ⟨g,0,none⟩=some (.int .u8 K)):(convert 162 9 (.slice (some ⟨g,0,none⟩) 1 1)).run prog w= .ok (.string (kb K)) w:=by
 exact aik
def uw (s:ByteArray) (i:Int):Int:=alY (iB s i)
def jU (s:ByteArray) (i:Int):Int:=afu (iB s i) i
def jW (s:ByteArray) (i:Int):ByteArray:=YZ (textOf s i.toNat (iB s i))
def jf (s:ByteArray) (i:Int):Int:=Q9 (textOf s i.toNat (iB s i))
theorem lG {s:ByteArray} {i:Int} (h:0<=jU s i):0<=i/\i<=jU s i/\jU s i<=s.size/\(l7 (uw s i)).data.toList=(s.data.toList.take (jU s i).toNat).drop i.toNat:=by
 unfold jU uw at *;cases hG:iB s i with
 |none=>rw [hG] at h;simp[afu] at h
 |some p=>
  obtain⟨n,c⟩:=p;obtain⟨k,rfl,hk,hc,hn,hput⟩:=FB hG;simp only[afu,alY];refine⟨Aaa,Aaa,Aaa,?_⟩;rw [<-ByteArray.toList_eq,hput,Lib.extract_toList,List.drop_take];simp only[Int.toNat_natCast];rfl
theorem iQ {s:ByteArray} {i:Int} (h:0<=jf s i):0<=i/\i<=jf s i/\jf s i<=s.size/\(jW s i).size<=1000/\(og (jW s i)).data.toList=(s.data.toList.take (jf s i).toNat).drop i.toNat:=by
 unfold jf jW at *;cases hG:textOf s i.toNat (iB s i) with
 |none=>rw [hG] at h;simp[Q9] at h
 |some p=>
  obtain⟨t,e⟩:=p;obtain⟨k,rfl,hk,hc,hn,hput⟩:=Yp hG;simp only[Q9,YZ];refine⟨Aaa,Aaa,Aaa,hn,?_⟩;rw [<-ByteArray.toList_eq,hput,Lib.extract_toList,List.drop_take];simp only[Int.toNat_natCast]
def xw (s:ByteArray):Int:=jU s (jf s (jU s (jU s (jU s (jU s 1)))))
def cand (s:ByteArray):Mg:=
 ⟨(s.data.toList.headD 0).toNat,uw s 1,uw s (jU s 1),uw s (jU s (jU s 1)),uw s (jU s (jU s (jU s 1))),jW s (jU s (jU s (jU s (jU s 1)))),uw s (jf s (jU s (jU s (jU s (jU s 1)))))⟩
theorem nG (l:List UInt8) (i j:Nat) (h:i<=j):l.take i++(l.take j).drop i=l.take j:=by
 have h2:(l.take j).take i=l.take i:=by rw [List.take_take,Nat.min_eq_left h]
 rw [<-h2,List.take_append_drop]
theorem Eu (hs:0 < s.size) (h:0<=xw s):xw s<=s.size/\(zP (cand s)).data.toList=s.data.toList.take (xw s).toNat:=by
 unfold xw at h;obtain⟨g5,l6,e6,q6⟩:=lG h;obtain⟨g4,l5,e5,_,q5⟩:=iQ g5;obtain⟨g3,l4,e4,q4⟩:=lG g4;obtain⟨g2,l3,e3,q3⟩:=lG g3;obtain⟨g1,l2,e2,q2⟩:=lG g2;obtain⟨g0,l1,e1,q1⟩:=lG g1;refine⟨e6,?_⟩;unfold zP cand xw;simp only[ByteArray.data_append,Array.toList_append];rw [q1,q2,q3,q4,q5,q6]
 have q0:(kb ((s.data.toList.headD 0).toNat:Int)).data.toList=s.data.toList.take (1:Int).toNat:=by
  exact ajq
 rw [q0,nG _ _ _ Aaa,nG _ _ _ Aaa,nG _ _ _ Aaa,nG _ _ _ Aaa,nG _ _ _ Aaa,nG _ _ _ Aaa]
def mg0:Mg:=⟨0,0,0,0,0,ByteArray.empty,0⟩
def jS (s:ByteArray):Bool:=decide (0 < s.size)&&decide (xw s=s.size)&&dw (cand s)
def mO (s:ByteArray):Mg:=if jS s=true then cand s else mg0
theorem EF (hs:0 < s.size):jS s=(decide (0<=xw s)&&decide (jF (cand s)=s)):=by
 rw [Bool.eq_iff_iff];unfold jS;simp only[Bool.and_eq_true,decide_eq_true_iff];constructor
 .rintro⟨⟨_,h1⟩,h2⟩;have h0:0<=xw s:=Aaa
  refine⟨h0,?_⟩;rw [yB h2];apply ByteArray.ext
  apply Array.ext'
  rw [(Eu hs h0).2,h1,Int.toNat_natCast,List.take_of_length_le (by rw [bE];exact Nat.le_refl _)]
 .rintro⟨h0,h1⟩;obtain⟨hl,hb⟩:=Eu hs h0;cases hm:dw (cand s) with
  |false=>
   rw [BJ hm] at h1;rw [<-h1] at hs;exact absurd hs Aae
  |true=>
   rw [yB hm] at h1;refine⟨⟨hs,?_⟩,rfl⟩;rw [h1] at hb;have:=congrArg List.length hb;rw [List.length_take,bE] at this;omega
def zW (o:gQ):ByteArray:=kb o.K++l7 o.no++og o.k++l7 o.n++og (jF o.m)
def vL (o:gQ):ByteArray:=if cK o=true then zW o else ByteArray.empty
theorem BK (h:cK o=true):vL o=zW o:=by unfold vL;rw [if_pos h]
theorem Qp (h:cK o=false):vL o=ByteArray.empty:=by unfold vL;rw [if_neg (by rw [h];simp)]
theorem Yd (h:cK o=true):0<=o.K/\o.K<=6:=by
 exact ajZ
theorem SA (w:World) (g:Nat) (K:Int) (h:0<=K/\K<=6) (hc:w.cell? ⟨g,0,none⟩=some (.int .u8 K)):(convert 162 9 (.slice (some ⟨g,0,none⟩) 1 1)).run prog w= .ok (.string (kb K)) w:=by
 exact aik
theorem UF (K:Int) (h0:0<=K) (h6:K<=6):IntKind.u8.wrap K=K:=by
 have h3:K=0\/K=1\/K=2\/K=3\/K=4\/K=5\/K=6:=Aaa
 rcases h3 with rfl|rfl|rfl|rfl|rfl|rfl|rfl<;>rfl
theorem VF {w:World} {v0 v1 v2 v3 v4 v5 v6 v7 v8 v9 v10:Value} (h:w.heap[g]?=some (.cells #[v0,v1,v2,v3,v4,v5,v6,v7,v8,v9,v10] t (0,0))):
 w.cell? ⟨g,0,none⟩=some v0/\w.cell? ⟨g,1,none⟩=some v1/\w.cell? ⟨g,2,none⟩=some v2/\w.cell? ⟨g,3,none⟩=some v3/\w.cell? ⟨g,4,none⟩=some v4/\w.cell? ⟨g,5,none⟩=some v5/\w.cell? ⟨g,6,none⟩=some v6/\w.cell? ⟨g,7,none⟩=some v7/\w.cell? ⟨g,8,none⟩=some v8/\w.cell? ⟨g,9,none⟩=some v9/\w.cell? ⟨g,10,none⟩=some v10:=by
 exact aiQ
def JF (s:ByteArray):Int:=jU s (jf s (jU s 1))
def AA (s:ByteArray):ByteArray:=jW s (JF s)
def LH (s:ByteArray):Int:=jf s (JF s)
def opC (s:ByteArray):gQ:=⟨(s.data.toList.headD 0).toNat,uw s 1,jW s (jU s 1),uw s (jf s (jU s 1)),mO (AA s)⟩
def qJ (s:ByteArray):Bool:=decide ((AA s).size=0)||jS (AA s)
theorem afp:dw mg0=false:=Aae
theorem JU (h:s.size=0):s=ByteArray.empty:=eq_empty s h
theorem Jm {b:ByteArray} (h:b.size=0):mO b=mg0/\jS b=false:=by
 have ho:jS b=false:=by unfold jS;rw [decide_eq_false Aaa];rfl
 refine⟨?_,ho⟩;unfold mO;rw [ho,if_neg Aac]
theorem Xg (h:qJ s=true):jF (mO (AA s))=AA s:=by
 by_cases h0:(AA s).size=0
 .rw [(Jm h0).1,BJ afp,JU h0]
 .unfold qJ at h;rw [decide_eq_false h0,Bool.false_or] at h;have h2:=EF (s:=AA s) Aaa;rw [h] at h2;unfold mO;rw [if_pos h];have h3:=h2.symm;simp only[Bool.and_eq_true,decide_eq_true_iff] at h3;exact h3.2
theorem JC (hs:0 < s.size) (h:0<=LH s) (hb:qJ s=true):LH s<=s.size/\(zW (opC s)).data.toList=s.data.toList.take (LH s).toNat:=by
 have hq:=Xg hb;unfold LH AA at *;obtain⟨g3,l4,e4,_,q4⟩:=iQ h;unfold JF at g3 l4 e4 q4 hq h ⊢;obtain⟨g2,l3,e3,q3⟩:=lG g3;obtain⟨g1,l2,e2,_,q2⟩:=iQ g2;obtain⟨g0,l1,e1,q1⟩:=lG g1;refine⟨e4,?_⟩;unfold zW opC AA JF;simp only[ByteArray.data_append,Array.toList_append];rw [hq,q1,q2,q3,q4]
 have q0:(kb ((s.data.toList.headD 0).toNat:Int)).data.toList=s.data.toList.take (1:Int).toNat:=by
  exact ajq
 rw [q0,nG _ _ _ Aaa,nG _ _ _ Aaa,nG _ _ _ Aaa,nG _ _ _ Aaa]
def op0:gQ:=⟨0,0,ByteArray.empty,0,mg0⟩
def kN (s:ByteArray):Bool:=decide (0 < s.size)&&decide (LH s=s.size)&&qJ s&&cK (opC s)
def getOp (s:ByteArray):gQ:=if kN s=true then opC s else op0
theorem Xr (hs:0 < s.size):kN s=(decide (0<=LH s)&&qJ s&&decide (vL (opC s)=s)):=by
 rw [Bool.eq_iff_iff];unfold kN;simp only[Bool.and_eq_true,decide_eq_true_iff];constructor
 .rintro⟨⟨⟨_,h1⟩,hb⟩,h2⟩;have h0:0<=LH s:=Aaa
  refine⟨⟨h0,hb⟩,?_⟩;rw [BK h2];apply ByteArray.ext
  apply Array.ext'
  rw [(JC hs h0 hb).2,h1,Int.toNat_natCast,List.take_of_length_le (by rw [bE];exact Nat.le_refl _)]
 .rintro⟨⟨h0,hb⟩,h1⟩;obtain⟨hl,hq⟩:=JC hs h0 hb;cases hm:cK (opC s) with
  |false=>
   rw [Qp hm] at h1;rw [<-h1] at hs;exact absurd hs Aae
  |true=>
   rw [BK hm] at h1;refine⟨⟨⟨hs,?_⟩,hb⟩,rfl⟩;rw [h1] at hq;have:=congrArg List.length hq;rw [List.length_take,bE] at this;omega
theorem sD (s:ByteArray) (i:Int):(jW s i).size<=1000:=by
 exact aiJ
theorem acW (s:ByteArray):(mO s).k.size<=1000:=by
 unfold mO;split
 .exact sD _ _
 .decide
def gP (s:ByteArray):Nat->Int
 |0=>1
 |j+1=>jU s (gP s j)
def numsL (s:ByteArray) (j:Nat):List Value:=(List.range j).map λi=> .int .i64 (uw s (gP s i))
theorem T9 (s:ByteArray) (j:Nat):numsL s (j+1)=numsL s j++[.int .i64 (uw s (gP s j))]:=by unfold numsL;rw [List.range_succ,List.map_append];rfl
theorem acn:(prog.info? 3).map (λi=>(i.zero,i.size,i.bytes))=some (some (.int .i64 0),1,8):=Aab
theorem own_below {w w':World} {base size n:Nat} {e:TypeId} {v:Value} {xs:List Value} (h:w.ownsRow base e size v n xs) (hb:aI w w'):w'.ownsRow base e size v n xs:=by
 refine h.kept (row:=none) ⟨hb.os,hb.tape,hb.output,hb.size,λk hk _=>hb.block k hk⟩ ?_;cases hv:v.ownBlock with
 |none=>exact .inl rfl
 |some k=>right;simp
theorem MJ (s:ByteArray) (i:Int) (hs:s.size<=maxLen) (w:World):Calls prog 102 #[.string s,.int .i64 i] w (eO w (.tuple #[.int .i64 (uw s i),.int .i64 (jU s i)])):=by
 have h:=CB s i w hs;rw [EG] at h;exact h
theorem MQ (s:ByteArray) (i:Int) (hs:s.size<=maxLen) (w:World):Calls prog 53 #[.string s,.int .i64 i] w (eO w (.tuple #[.string (jW s i),.int .i64 (jf s i)])):=by
 have h:=QN s i w hs;rw [CG] at h;exact h
theorem afl (s:ByteArray) (hs:s.size<=maxLen) (w:World):Calls prog 140 #[.string s,.int .i64 1,.int .i64 4] w λe w'=>
 ∃g cap,e= .returned (.tuple #[.slice (some ⟨g,0,none⟩) 4 cap,.int .i64 (gP s 4)])/\g < w'.heap.size/\(w'.cell? ⟨g,0,none⟩=some (.int .i64 (uw s (gP s 0)))/\w'.cell? ⟨g,1,none⟩=some (.int .i64 (uw s (gP s 1)))/\w'.cell? ⟨g,2,none⟩=some (.int .i64 (uw s (gP s 2)))/\w'.cell? ⟨g,3,none⟩=some (.int .i64 (uw s (gP s 3))))/\aI w w':=by
 obtain⟨i0,hi,hz0,hz1,hz2⟩:=info_parts acn;have HG:=Hq (λi w1=>MJ s i hs w1);clear hs;go_in
 go_wp2_with fail;go_loopw [8,9,10] (λv a k wr=>∃j,j<=4/\k= .int .i64 (j:Nat)/\a= .int .i64 (gP s j)/\wr.ownsRow w.heap.size 3 1 v j (numsL s j)/\aI w wr) (λ_ _ k _=>4 - (intOf k).toNat)
 case atStart=>exact⟨0,Aaa,rfl,rfl,World.ownsRow_lit _ #[] 0 (Nat.le_refl _) Aae rfl,(Below.refl _ _).alloc (Nat.le_refl _) _⟩
 case round=>
  obtain⟨j,hj,rfl,rfl,hown,hbel⟩:=hrel;by_cases hlt:j < 4
  .have HN:=Hq (T9 s j);have HP:=Hq (show gP s (j+1)=jU s (gP s j) from rfl);have hg:=λw1=>HG (gP s j) w1
   generalize uw s (gP s j)=x at *;generalize jU s (gP s j)=a' at *;generalize gP s j=a at *;have Gg:=Hq hg;clear hg;go_wp2_with fail;refine(Gg _).mono ?_;rintro e w5 ⟨rfl,hb5⟩;have hown5:=own_below hown hb5;have abO:=hbel.trans (hb5.mono hbel.size);clear hb5 hown hbel;go_wp2_with (at_builtin;refine wpList_append_own _ rfl _ _ 22 rfl w.heap.size 3 i0 (.int .i64 0) 1 8 underlying22 hi hz0 hz1 hz2 rfl Aae _ _ _ rfl (hown5.alloc _) ⟨w5.heap.size,0,none⟩ 1 1 [.int .i64 x] rfl rfl ?c1 ?c2 ?c3 ?c4 ?c5 ?_)
   case c1=>exact cell_one_new _ _ _
   case c2=>intro u hu;simp at hu;subst hu;rfl
   case c3=>unfold maxLen;omega
   case c4=>omega
   case c5=>have:=abO.size;simp;omega
   intro v' w6 hown' hgrow _;have O7:=below_append abO hown5 hgrow;rw [<-ah HN] at hown';clear hgrow hown5 abO HN;go_wp2_with fail;go_roundw
   case rel=>exact⟨j+1,Aaa,Aah,Aaw,hown',O7⟩
   case measure=>simp[intOf];omega
  .obtain rfl:j=4:=Aaa
   obtain⟨g,cap,rfl,_,_⟩:=World.ownsRow.form hown Aaa;have hc:=Hq (hown.cells (g:=g) rfl);have hlt:=(hown.lt g rfl).2;have HB:=Hq hbel;clear hown hbel;go_wp2_with fail;exact bodyPost_ret (v:= .tuple #[.slice (some ⟨g,0,none⟩) 4 cap,.int .i64 (gP s 4)]) (by simp[results,results140,go_sem]) rfl ⟨g,cap,rfl,hlt,⟨hc 0 _ rfl,hc 1 _ rfl,hc 2 _ rfl,hc 3 _ rfl⟩,HB⟩
def Df (s:ByteArray):Value:= .tuple #[mY (mO s),.bool (jS s)]
theorem DR (h:jS s=false):Df s= .tuple #[.agg (bX 0 0 0 0 0 ⟨#[]⟩ 0),.bool false]:=by
 unfold Df mO;rw [h,if_neg Aac];rfl
theorem KP (h:0 < s.size):s.data.toList.headD 0=s[0]:=by
 have hl:=bE s;rw [List.headD_eq_head?_getD,List.head?_eq_getElem?,List.getElem?_eq_getElem Aaa];rfl
theorem xY (s:ByteArray) (i:Int) (hs:s.size<=maxLen) (w:World) (hH:Handle w):Calls prog 254 #[.string s,.int .i64 i] w (eO w (.tuple #[.int .i64 (uw s i),.int .i64 (jU s i)])):=by
 have h:=Pq s i w hs hH;rw [EG] at h;exact h
theorem Lj (s:ByteArray) (i:Int) (hs:s.size<=maxLen) (w:World) (hH:Handle w):Calls prog 198 #[.string s,.int .i64 i] w (eO w (.tuple #[.string (jW s i),.int .i64 (jf s i)])):=by
 have h:=Pt s i w hs hH;rw [CG] at h;exact h
theorem EO (w:World):Calls prog 256 #[.string ByteArray.empty] w (eO w (.tuple #[.agg (bX 0 0 0 0 0 ⟨#[]⟩ 0),.bool false])):=by
 go_in
 go_wp2_with fail;exact bodyPost_ret (v:= .tuple #[.agg (bX 0 0 0 0 0 ⟨#[]⟩ 0),.bool false]) (by simp[results,results256,go_sem]) rfl ⟨rfl,ay w _⟩
theorem Dj (s:ByteArray) (hs:s.size<=maxLen) (h0:0 < s.size) (w:World) (hH:Handle w):Calls prog 256 #[.string s] w (eO w (Df s)):=by
 have IU:=Hq (λw1 h=>xY s (gP s 0) hs w1 h);have HG2:=Hq (λw1 h=>xY s (gP s 1) hs w1 h);have Ea:=Hq (λw1 h=>xY s (gP s 2) hs w1 h);have HG4:=Hq (λw1 h=>xY s (gP s 3) hs w1 h);have vX:=Hq (λw1 h=>Lj s (gP s 4) hs w1 h);have HG6:=Hq (λw1 h=>xY s (jf s (gP s 4)) hs w1 h);have e1:jU s (gP s 0)=gP s 1:=rfl;have e2:jU s (gP s 1)=gP s 2:=rfl;have e3:jU s (gP s 2)=gP s 3:=rfl;have e4:jU s (gP s 3)=gP s 4:=rfl;have ez:gP s 0=1:=rfl;rw [e1] at IU;rw [e2] at HG2;rw [e3] at Ea;rw [e4] at HG4;have HP:=Hq (λw1=>Jt (cand s) w1);have HO:=Hq (show jS s=(decide (xw s=s.size)&&dw (cand s)) by unfold jS;rw [decide_eq_true h0];rfl);open asq in exact agf
theorem EM (s:ByteArray) (hs:s.size<=maxLen) (w:World) (hH:Handle w):Calls prog 256 #[.string s] w (eO w (Df s)):=by
 by_cases h0:s.size=0
 .obtain rfl:=eq_empty s h0;rw [DR (show jS ByteArray.empty=false by unfold jS;simp)];exact EO w
 .exact Dj s hs Aaa w hH
theorem Ir (m:Mg) (w:World) (hs:m.k.size<=maxLen) (h:dw m=false):Calls prog 141 #[mY m] w (eO w (.string ByteArray.empty)):=by
 have HO:=Hq (λw1=>kD m w1 hs);rw [h] at HO;clear h hs;obtain⟨K,F,T,I,L,k,N⟩:=m;go_in
 exact aiV
theorem F5 (m:Mg) (w:World) (hs:m.k.size<=maxLen) (h:dw m=true):Calls prog 141 #[mY m] w (eO w (.string (zP m))):=by
 have hK:=afj h;have HO:=Hq (λw1=>kD m w1 hs);rw [h] at HO;clear h hs;obtain⟨K,F,T,I,L,k,N⟩:=m;obtain⟨hK0,hK2⟩:=hK;dsimp only at hK0 hK2
 have hw8:IntKind.u8.wrap K=K:=by
  have h3:K=0\/K=1\/K=2:=Aaa
  rcases h3 with rfl|rfl|rfl<;>rfl
 show Calls prog 141 #[mY ⟨K,F,T,I,L,k,N⟩] w (eO w (.string (kb K++l7 F++l7 T++l7 I++l7 L++og k++l7 N)))
 have N1:=Hq (λw1=>lD F w1);have N2:=Hq (λw1=>lD T w1);have N3:=Hq (λw1=>lD I w1);have N4:=Hq (λw1=>lD L w1);have N5:=Hq (λw1=>vQ k w1);have N6:=Hq (λw1=>lD N w1);have s1:=nA F;have s2:=nA T;have s3:=nA I;have s4:=nA L;have s5:=BM k;have s6:=nA N;have s0:=VQ K;have HCV:=Hq (λw1 g=>Xi w1 g K ⟨hK0,hK2⟩);generalize l7 F=bF at *;generalize l7 T=bT at *;generalize l7 I=bI at *;generalize l7 L=bL at *;generalize og k=bk at *;generalize l7 N=bN at *;generalize kb K=bK at *;have a1:=λw1=>run_string_add_sum (P:=prog) w1 bK bF Aaa
 have a2:=λw1=>run_string_add_sum (P:=prog) w1 (bK++bF) bT (by rw [ByteArray.size_append];omega)
 have a3:=λw1=>run_string_add_sum (P:=prog) w1 (bK++bF++bT) bI Abq
 have a4:=λw1=>run_string_add_sum (P:=prog) w1 (bK++bF++bT++bI) bL Abq
 have a5:=λw1=>run_string_add_sum (P:=prog) w1 (bK++bF++bT++bI++bL) bk Abq
 have a6:=λw1=>run_string_add_sum (P:=prog) w1 (bK++bF++bT++bI++bL++bk) bN Abq
 have HA:=Hq (And.intro a1 (And.intro a2 (And.intro a3 (And.intro a4 (And.intro a5 a6)))));clear s0 s1 s2 s3 s4 s5 s6 a1 a2 a3 a4 a5 a6 hK0 hK2;go_in
 go_wp2_with fail;refine(HO _).mono ?_;rintro e w1 ⟨rfl,hb1⟩;have hA:=aN (heap_alloc_new w _) hb1;have hB:=(ay w _).trans (hb1.mono Aac);obtain⟨c0,c1,c2,c3,c4,c5,c6⟩:=tF hA;have hz:=dG hA;clear hb1;go_upto_region 3 with fail;refine wp_at (λV hV=>?_);have hblk:V.heap[w.heap.size]?=some (.cells (bX K F T I L k N) 98 (0,0)):=by rw [hV];exact hA
 have vW:=Hq (show aI w V by rw [hV];exact hB);have hgV:=dG hblk;obtain⟨p0,p1,p2,p3,p4,p5,p6⟩:=tF hblk;clear hV hblk hA hB c0 c1 c2 c3 c4 c5 c6 hz;open apq in exact Ou
theorem FZ (m:Mg) (w:World) (hs:m.k.size<=maxLen):Calls prog 141 #[mY m] w (eO w (.string (jF m))):=by
 cases h:dw m
 .rw [BJ h];exact Ir m w hs h
 .rw [yB h];exact F5 m w hs h
theorem JX (o:gQ) (w:World) (hs:o.k.size<=maxLen) (hm:o.m.k.size<=maxLen):Calls prog 142 #[jJ o] w (eO w (.bool (cK o))):=by
 have HO:=Hq (λw1=>jv o w1 hs hm);generalize cK o=r at *;obtain⟨K,no,k,n,⟨mK,mF,mT,mI,mL,mk,mN⟩⟩:=o;go_in
 exact aiS
theorem MI (o:gQ) (w:World) (hs:o.k.size<=maxLen) (hm:o.m.k.size<=maxLen) (h:cK o=false):Calls prog 104 #[jJ o] w (eO w (.string ByteArray.empty)):=by
 have HO:=Hq (λw1=>JX o w1 hs hm);rw [h] at HO;clear h hs hm;obtain⟨K,no,k,n,⟨mK,mF,mT,mI,mL,mk,mN⟩⟩:=o;go_in
 exact aiV
theorem Iu (o:gQ) (w:World) (hs:o.k.size<=maxLen) (hm:o.m.k.size<=maxLen) (h:cK o=true):Calls prog 104 #[jJ o] w (eO w (.string (zW o))):=by
 have hK:=Yd h;have HO:=Hq (λw1=>JX o w1 hs hm);have NM:=Hq (λw1=>FZ o.m w1 hm);rw [h] at HO;clear h hs hm;obtain⟨K,no,k,n,m⟩:=o;obtain⟨hK0,hK6⟩:=hK;dsimp only at hK0 hK6 NM;have hw8:=UF K hK0 hK6;show Calls prog 104 #[jJ ⟨K,no,k,n,m⟩] w (eO w (.string (kb K++l7 no++og k++l7 n++og (jF m))))
 have N1:=Hq (λw1=>lD no w1);have N2:=Hq (λw1=>vQ k w1);have N3:=Hq (λw1=>lD n w1);have N4:=Hq (λw1=>vQ (jF m) w1);have s1:=nA no;have s2:=BM k;have s3:=nA n;have s4:=BM (jF m);have s0:=VQ K;have HCV:=Hq (λw1 g=>SA w1 g K ⟨hK0,hK6⟩);generalize l7 no=b1 at *;generalize og k=b2 at *;generalize l7 n=b3 at *;generalize og (jF m)=b4 at *;generalize jF m=bM at *;generalize kb K=bK at *;obtain⟨mK,mF,mT,mI,mL,mk,mN⟩:=m;have a1:=λw1=>run_string_add_sum (P:=prog) w1 bK b1 Aaa
 have a2:=λw1=>run_string_add_sum (P:=prog) w1 (bK++b1) b2 Abq
 have a3:=λw1=>run_string_add_sum (P:=prog) w1 (bK++b1++b2) b3 Abq
 have a4:=λw1=>run_string_add_sum (P:=prog) w1 (bK++b1++b2++b3) b4 Abq
 have HA:=Hq (And.intro a1 (And.intro a2 (And.intro a3 a4)));clear s0 s1 s2 s3 s4 a1 a2 a3 a4 hK0 hK6;go_in
 go_wp2_with fail;refine(HO _).mono ?_;rintro e w1 ⟨rfl,hb1⟩;have hA:=aN (heap_alloc_new w _) hb1;have hB:=(ay w _).trans (hb1.mono Aac);obtain⟨c0,c1,c2,c3,c4,c5,c6,c7,c8,c9,c10⟩:=VF hA;have hz:=dG hA;clear hb1;go_upto_region 3 with fail;refine wp_at (λV hV=>?_);have hblk:V.heap[w.heap.size]?=some (.cells (bY K no k n mK mF mT mI mL mk mN) 100 (0,0)):=by rw [hV];exact hA
 have vW:=Hq (show aI w V by rw [hV];exact hB);have hgV:=dG hblk;obtain⟨p0,p1,p2,p3,p4,p5,p6,p7,p8,p9,nX⟩:=VF hblk;clear hV hblk hA hB c0 c1 c2 c3 c4 c5 c6 c7 c8 c9 c10 hz;open apr in exact Ou
theorem YK (o:gQ) (w:World) (hs:o.k.size<=maxLen) (hm:o.m.k.size<=maxLen):Calls prog 104 #[jJ o] w (eO w (.string (vL o))):=by
 cases h:cK o
 .rw [Qp h];exact MI o w hs hm h
 .rw [BK h];exact Iu o w hs hm h
def kE (s:ByteArray):Nat:=65536*(sums s.data.toList).2+(sums s.data.toList).1
theorem MX (s:ByteArray):kE s < 4294967296:=by
 have:=sums_lt s.data.toList;unfold kE;omega
def four (n:Nat):List UInt8:=[UInt8.ofNat (n / 16777216),UInt8.ofNat (n / 65536 % 256),UInt8.ofNat (n / 256 % 256),UInt8.ofNat (n % 256)]
def mE (n:Nat):ByteArray:=⟨(four n).toArray⟩
theorem Ji (w:World) (g n cap:Nat) (h:n < 4294967296) (c0:w.cell? ⟨g,0,none⟩=some (.int .u8 ((n:Int) / 16777216))) (c1:w.cell? ⟨g,1,none⟩=some (.int .u8 ((n:Int) / 65536 % 256))) (c2:w.cell? ⟨g,2,none⟩=some (.int .u8 ((n:Int) / 256 % 256))) (c3:w.cell? ⟨g,3,none⟩=some (.int .u8 ((n:Int) % 256))):
 (convert 162 9 (.slice (some ⟨g,0,none⟩) 4 cap)).run prog w= .ok (.string (mE n)) w:=by
 refine run_convert_bytes_back (P:=prog) w 162 9 5 ⟨g,0,none⟩ cap (four n) underlying162 underlying5 underlying9 ?_;intro j hj;have hj4:j < 4:=hj;have hcase:j=0\/j=1\/j=2\/j=3:=Aaa
 rcases hcase with rfl|rfl|rfl|rfl
 .show w.cell? ⟨g,0,none⟩=_
  rw [c0];simp only[four,List.getElem_cons_zero];rw [toNat_byte _ Aaa];rfl
 .show w.cell? ⟨g,1,none⟩=_
  rw [c1];simp only[four,List.getElem_cons_succ,List.getElem_cons_zero];rw [toNat_byte _ Aaa];rfl
 .show w.cell? ⟨g,2,none⟩=_
  rw [c2];simp only[four,List.getElem_cons_succ,List.getElem_cons_zero];rw [toNat_byte _ Aaa];rfl
 .show w.cell? ⟨g,3,none⟩=_
  rw [c3];simp only[four,List.getElem_cons_succ,List.getElem_cons_zero];rw [toNat_byte _ Aaa];rfl
theorem afm (n:Nat) (h:n < 4294967296) (w:World):Calls prog 55 #[.int .u32 n] w (eO w (.string (mE n))):=by
 have hcv:=Ji (w.alloc (.cells #[.int .u8 ((n:Int) / 16777216),.int .u8 ((n:Int) / 65536 % 256),.int .u8 ((n:Int) / 256 % 256),.int .u8 ((n:Int) % 256)] 5)) w.heap.size n 4 h Aac Aac Aac Aac;go_in
 go_wp2_with fail;go_ret;exact⟨rfl,ay w _⟩
theorem adr (s:ByteArray) (hs:s.size<=maxLen) (w:World):Calls prog 199 #[.string s] w λe w'=>∃g,e= .returned (.slice (some ⟨g,0,none⟩) 4 4)/\w.heap.size<=g/\w'.heap[g]?=some (.cells #[.int .u8 ((kE s:Int) / 16777216),.int .u8 ((kE s:Int) / 65536 % 256),.int .u8 ((kE s:Int) / 256 % 256),.int .u8 ((kE s:Int) % 256)] 5 (0,0))/\aI w w':=by
 have hn:=MX s;have HC:=Hq (λw1=>K8 s w1 hs);have e:(65536*(sums s.data.toList).2+(sums s.data.toList).1:Int)=(kE s:Int):=by unfold kE;omega
 rw [e] at HC;clear e hs;generalize kE s=n at *;go_in
 go_wp2_with fail;refine(HC _).mono ?_;rintro e w1 ⟨rfl,rfl⟩;go_wp2_with fail;go_ret;exact⟨w.heap.size,rfl,Nat.le_refl _,heap_alloc_new w _,ay w _⟩
end Go.Proofs.YtohmklmkjmlpjaaGreatDoor
