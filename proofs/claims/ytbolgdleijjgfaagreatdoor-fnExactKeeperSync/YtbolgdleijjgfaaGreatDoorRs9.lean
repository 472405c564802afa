/- Parts. -/
import Derived.Test.YtbolgdleijjgfaaGreatDoorRs8
import Derived.Test.YtbolgdleijjgfaaGreatDoorRs3
namespace Go.Proofs.YtbolgdleijjgfaaGreatDoor
open Go.Proofs.Tryz
set_option maxHeartbeats 4000000
open Go.RowKit
open Mth
variable (F:Int) (T:Int) (I:Int) (L:Int) (k:ByteArray) (N:Int) (w:World) {g B:Nat} {b4 b5 b6 b7 b8 b9 b10 a0 a1 a2 a3 a4 a5 a6 a7 a8 a9 Oe:Value} {t:TypeId}
theorem aJ {w:World} (h:w.heap[g]?=some (.cells #[a0,a1,a2,a3,a4,a5,a6,a7,a8,a9,Oe] t (0,0))):
 (w.cell? ⟨g,0,none⟩=some a0/\w.cell? ⟨g,1,none⟩=some a1/\w.cell? ⟨g,2,none⟩=some a2/\w.cell? ⟨g,3,none⟩=some a3/\w.cell? ⟨g,4,none⟩=some a4/\w.cell? ⟨g,5,none⟩=some a5/\w.cell? ⟨g,6,none⟩=some a6/\w.cell? ⟨g,7,none⟩=some a7/\w.cell? ⟨g,8,none⟩=some a8/\w.cell? ⟨g,9,none⟩=some a9/\w.cell? ⟨g,10,none⟩=some Oe)/\(w.frozen? ⟨g,0,none⟩=false/\w.frozen? ⟨g,1,none⟩=false/\w.frozen? ⟨g,2,none⟩=false/\w.frozen? ⟨g,3,none⟩=false/\w.frozen? ⟨g,4,none⟩=false/\w.frozen? ⟨g,5,none⟩=false/\w.frozen? ⟨g,6,none⟩=false/\w.frozen? ⟨g,7,none⟩=false/\w.frozen? ⟨g,8,none⟩=false/\w.frozen? ⟨g,9,none⟩=false/\w.frozen? ⟨g,10,none⟩=false):=by
 have hf:∀i,w.frozen? ⟨g,i,none⟩=false:=λi=>by unfold World.frozen?;rw [h];simp
 have hc:∀i,w.cell? ⟨g,i,none⟩=#[a0,a1,a2,a3,a4,a5,a6,a7,a8,a9,Oe][i]?:=λi=>aEW w g i _ t (0,0) h
 exact⟨⟨hc 0,hc 1,hc 2,hc 3,hc 4,hc 5,hc 6,hc 7,hc 8,hc 9,hc 10⟩,hf 0,hf 1,hf 2,hf 3,hf 4,hf 5,hf 6,hf 7,hf 8,hf 9,hf 10⟩
theorem lF {w:World} {b0 b1 b2 b3:Value} (h:w.heap[g]?=some (.cells #[a0,a1,a2,a3,a4,a5,a6,a7,a8,a9,Oe] t (0,0))):(((((((((((w.setCell ⟨g,0,none⟩ b0).setCell ⟨g,1,none⟩ b1).setCell ⟨g,2,none⟩ b2).setCell ⟨g,3,none⟩ b3).setCell ⟨g,4,none⟩ b4).setCell ⟨g,5,none⟩ b5).setCell ⟨g,6,none⟩ b6).setCell ⟨g,7,none⟩ b7).setCell ⟨g,8,none⟩ b8).setCell ⟨g,9,none⟩ b9).setCell ⟨g,10,none⟩ b10).heap[g]?=some (.cells #[b0,b1,b2,b3,b4,b5,b6,b7,b8,b9,b10] t (0,0)):=
 GR.setW_blk [b0,b1,b2,b3,b4,b5,b6,b7,b8,b9,b10] (o:=0) (xs:=[a0,a1,a2,a3,a4,a5,a6,a7,a8,a9,Oe]) h
theorem iF {a w:World} {b0 b1 b2 b3:Value} (h:Below B a w) (hg:B<=g):Below B a (((((((((((w.setCell ⟨g,0,none⟩ b0).setCell ⟨g,1,none⟩ b1).setCell ⟨g,2,none⟩ b2).setCell ⟨g,3,none⟩ b3).setCell ⟨g,4,none⟩ b4).setCell ⟨g,5,none⟩ b5).setCell ⟨g,6,none⟩ b6).setCell ⟨g,7,none⟩ b7).setCell ⟨g,8,none⟩ b8).setCell ⟨g,9,none⟩ b9).setCell ⟨g,10,none⟩ b10):=
 GR.setW_below hg [b0,b1,b2,b3,b4,b5,b6,b7,b8,b9,b10] (o:=0) h
theorem Pj {w:World} (h:w.heap[g]?=some (.cells #[a0,a1,a2,a3,a4,a5,a6,a7,a8,a9,Oe] t (0,0))):(((((((w.setCell ⟨g,4,none⟩ b4).setCell ⟨g,5,none⟩ b5).setCell ⟨g,6,none⟩ b6).setCell ⟨g,7,none⟩ b7).setCell ⟨g,8,none⟩ b8).setCell ⟨g,9,none⟩ b9).setCell ⟨g,10,none⟩ b10).heap[g]?=some (.cells #[a0,a1,a2,a3,b4,b5,b6,b7,b8,b9,b10] t (0,0)):=
 GR.setW_blk [b4,b5,b6,b7,b8,b9,b10] (o:=4) (xs:=[a0,a1,a2,a3,a4,a5,a6,a7,a8,a9,Oe]) h
theorem Ae {a w:World} (h:Below B a w) (hg:B<=g):Below B a (((((((w.setCell ⟨g,4,none⟩ b4).setCell ⟨g,5,none⟩ b5).setCell ⟨g,6,none⟩ b6).setCell ⟨g,7,none⟩ b7).setCell ⟨g,8,none⟩ b8).setCell ⟨g,9,none⟩ b9).setCell ⟨g,10,none⟩ b10):=
 GR.setW_below hg [b4,b5,b6,b7,b8,b9,b10] (o:=4) h
theorem Ag {w:World} {g':Nat} (hne:g'≠g):(((((((w.setCell ⟨g,4,none⟩ b4).setCell ⟨g,5,none⟩ b5).setCell ⟨g,6,none⟩ b6).setCell ⟨g,7,none⟩ b7).setCell ⟨g,8,none⟩ b8).setCell ⟨g,9,none⟩ b9).setCell ⟨g,10,none⟩ b10).heap[g']?=w.heap[g']?:=
 GR.setW_other hne [b4,b5,b6,b7,b8,b9,b10] (o:=4)
theorem iw {P:Program} {fn:Func} {Q:Ending->World->Prop} {x:Exit} {act:Act} {W:World} (h:∀W',W'=W->bodyPost P fn Q x act W'):bodyPost P fn Q x act W:=h W rfl
theorem fU (w:World) (a b:Obj):((w.alloc a).alloc b).heap[w.heap.size]?=some a/\((w.alloc a).alloc b).heap[w.heap.size+1]?=some b/\Below w.heap.size w ((w.alloc a).alloc b):=by
 have e1:(w.alloc a).heap.size=w.heap.size+1:=Aac
 have h4:=aEK (w.alloc a) b;have h6:=aEZ (w.alloc a) b w.heap.size Aaa;rw [e1] at h4;exact⟨h6.trans (aEK w a),h4,(au w a).alloc Aaa b⟩
theorem abt (w:World) (a b c:Obj):(((w.alloc a).alloc b).alloc c).heap[w.heap.size]?=some a/\(((w.alloc a).alloc b).alloc c).heap[w.heap.size+1]?=some b/\(((w.alloc a).alloc b).alloc c).heap[w.heap.size+1+1]?=some c/\Below w.heap.size w (((w.alloc a).alloc b).alloc c):=by
 exact axM
set_option maxRecDepth 100000
open Go.WideShapes
open Mth
theorem adG (m:Mg) (z:Int) (w:World) (h0:0<=z) (h1:z<=1048576) (h2:m.k.size<=maxLen):Calls prog 44 #[nZ m,.int .i64 z] w λe w'=>e= .returned (.int .i64 (if z - m.k.size < 0 then -1 else z - m.k.size))/\aH w w':=by
 obtain⟨K,F,T,I,L,k,N⟩:=m;dsimp only at h2;unfold maxLen at h2;by_cases hn:(z - k.size:Int) < 0
 all_goals
  go_in
  go_wp2_with fail
  go_ret
  exact⟨rfl,au w _⟩
theorem aDl (o:gJ) (z:Int) (w:World) (h0:0<=z) (h1:z<=1048576) (h2:o.k.size<=maxLen) (h3:o.m.k.size<=maxLen):Calls prog 86 #[jP o,.int .i64 z] w λe w'=>∃r:Int,e= .returned (.int .i64 r)/\(r= -1\/0<=r/\r<=z/\o.k.size<=1048576/\o.m.k.size<=1048576)/\aH w w':=by
 obtain⟨K,no,k,n,m⟩:=o;dsimp only at h2 h3;by_cases hn:(z - k.size:Int) < 0
 .obtain⟨mK,mF,mT,mI,mL,mk,mN⟩:=m;unfold maxLen at h2 h3;go_in
  go_wp2_with fail;go_ret;exact⟨_,rfl,.inl rfl,au w _⟩
 .have HM:=Hq (λw1=>adG m (z - k.size) w1 Aaa Aaa h3);have hks:k.size<=1048576:=Aaa
  have hmz:m.k.size<=9223372036854775807:=by unfold maxLen at h3;omega
  obtain⟨mK,mF,mT,mI,mL,mk,mN⟩:=m;dsimp only at hmz HM;clear h2 h3;go_in
  go_wp2_with fail;refine(HM _).mono ?_;by_cases hn2:(z - k.size - mk.size:Int) < 0
  .rw [aE7 hn2];rintro e w1 ⟨rfl,hb1⟩;have HB:=Hq ((au w _).trans (hb1.mono Aac));clear hb1 HM;go_wp2_with fail;go_ret;exact⟨_,rfl,.inl rfl,HB⟩
  .rw [aEX hn2];rintro e w1 ⟨rfl,hb1⟩;have HB:=Hq ((au w _).trans (hb1.mono Aac));clear hb1 HM;go_wp2_with fail;go_ret;exact⟨_,rfl,.inr ⟨Aaa,Aaa,hks,Aaa⟩,HB⟩
theorem O3 (w:World) (a b c:Obj):(((w.alloc a).alloc b).alloc c).heap[w.heap.size]?=some a/\(((w.alloc a).alloc b).alloc c).heap[w.heap.size+1]?=some b/\(((w.alloc a).alloc b).alloc c).heap[w.heap.size+1+1]?=some c/\Below w.heap.size w (((w.alloc a).alloc b).alloc c):=by
 exact axM
theorem aDm (o:gJ) (w:World):Calls prog 104 #[jP o] w (dM w (jP o)):=by
 obtain⟨K,no,k,n,m⟩:=o;have HT:=Hq (λw1=>ajk m w1);obtain⟨mK,mF,mT,mI,mL,mk,mN⟩:=m;go_in
 go_wp2_with fail;refine(HT _).mono ?_;rintro e w1 ⟨rfl,hb1⟩;obtain⟨hP,hR,hO,hB⟩:=O3 w (.cells (bJ K no k n mK mF mT mI mL mk mN) 88) (.cells (bJ 0 0 ⟨#[]⟩ 0 0 0 0 0 0 ⟨#[]⟩ 0) 73) (.cells (bJ K no k n 0 0 0 0 0 ⟨#[]⟩ 0) 73);have HR:=Hq (aI hR hb1);have HO:=Hq (aI hO hb1);have HB:=Hq (hB.trans (hb1.mono hB.size));clear hP hR hO hB hb1 HT;have hz1:=cK HR;have hz2:=cK HO;obtain⟨⟨o0,o1,o2,o3,o4,o5,o6,o7,o8,o9,o10⟩,f0,f1,f2,f3,f4,f5,f6,f7,f8,f9,f10⟩:=aJ HO;go_upto_region 7 with fail;refine wp_at (λW hW=>?_);have HOW:Hid (W.heap[w.heap.size+1+1]?=some (.cells (bJ K no k n mK mF mT mI mL mk mN) 73 (0,0))):=by rw [hW];exact Pj HO
 have HRW:Hid (W.heap[w.heap.size+1]?=some (.cells (bJ 0 0 ⟨#[]⟩ 0 0 0 0 0 0 ⟨#[]⟩ 0) 73 (0,0))):=by rw [hW];exact(Ag Aaa).trans HR
 have iK:Hid (aH w W):=by rw [hW];exact Ae HB Aaa
 clear hW HO HR HB hz1 hz2 o0 o1 o2 o3 o4 o5 o6 o7 o8 o9 o10 f0 f1 f2 f3 f4 f5 f6 f7 f8 f9 f10;have hz1:=cK HRW;have hz2:=cK HOW;obtain⟨⟨o0,o1,o2,o3,o4,o5,o6,o7,o8,o9,o10⟩,_⟩:=aJ HOW;obtain⟨⟨r0,r1,r2,r3,r4,r5,r6,r7,r8,r9,r10⟩,f0,f1,f2,f3,f4,f5,f6,f7,f8,f9,f10⟩:=aJ HRW;go_wp2_with fail;refine iw (λW' hW'=>?_);have hRR:W'.heap[w.heap.size+1]?=some (.cells (bJ K no k n mK mF mT mI mL mk mN) 73 (0,0)):=by rw [hW'];exact lF HRW
 have hBB:aH w W':=by rw [hW'];exact iF iK Aaa
 obtain⟨⟨x0,x1,x2,x3,x4,x5,x6,x7,x8,x9,x10⟩,_⟩:=aJ hRR;exact aET (v:= .agg (bJ K no k n mK mF mT mI mL mk mN)) (by simp[results,results104,go_sem,x0,x1,x2,x3,x4,x5,x6,x7,x8,x9,x10]) rfl ⟨rfl,hBB⟩
def xE (m:Mg):Value:=
 if m.K=0 then .iface 295 (.agg #[.int .i64 m.F,.int .i64 m.T,.string m.k,.int .i64 m.N])
 else if m.K=1 then .iface 297 (.agg #[.int .i64 m.F,.int .i64 m.T,.int .i64 m.I,.int .i64 m.L,.string m.k,.int .i64 m.N])
 else if m.K=2 then .iface 299 (.agg #[.int .i64 m.F,.int .i64 m.T,.int .i64 m.I])
 else .nilIface
theorem WX (v:Value) (w:World):(method 503 295 v "loop.example/g00264/impl.ok").run prog w= .ok (343,v) w:=Aab
theorem acX (v:Value) (w:World):(method 503 297 v "loop.example/g00264/impl.ok").run prog w= .ok (344,v) w:=Aab
theorem acW (v:Value) (w:World):(method 503 299 v "loop.example/g00264/impl.ok").run prog w= .ok (345,v) w:=Aab
theorem AU (hr:(mV F T&&keyOk k.data.toList&&fH N)=false):Calls prog 238 #[nZ ⟨0,F,T,I,L,k,N⟩] w (dM w (.tuple #[xE ⟨0,F,T,I,L,k,N⟩,.bool (bV ⟨0,F,T,I,L,k,N⟩)])):=by
 have HP:=Hq (show bV ⟨0,F,T,I,L,k,N⟩=false by simp only[Bool.and_eq_false_iff] at hr;rcases hr with(h|h)|h<;>simp[bV,h]);have HO:=Hq (λw1=>NJ F T k N false w1 hr);open aqA in exact Iw
theorem AR (hr:(mV F T&&keyOk k.data.toList&&fH N)=true) (hI:¬0=I):Calls prog 238 #[nZ ⟨0,F,T,I,L,k,N⟩] w (dM w (.tuple #[xE ⟨0,F,T,I,L,k,N⟩,.bool (bV ⟨0,F,T,I,L,k,N⟩)])):=by
 have HP:=Hq (show bV ⟨0,F,T,I,L,k,N⟩=false by simp only[aES] at hr;obtain⟨⟨h1,h2⟩,h3⟩:=hr;simp[bV,h1,h2,h3,Ne.symm hI]);have HO:=Hq (λw1=>NJ F T k N true w1 hr);have HM:=Hq (λw1=>yY F T k N w1);open aqz in exact Iw
theorem yV (F:Int) (T:Int) (L:Int) (k:ByteArray) (N:Int) (w:World) (hr:(mV F T&&keyOk k.data.toList&&fH N)=true) (hL:¬0=L):Calls prog 238 #[nZ ⟨0,F,T,0,L,k,N⟩] w (dM w (.tuple #[xE ⟨0,F,T,0,L,k,N⟩,.bool (bV ⟨0,F,T,0,L,k,N⟩)])):=by
 have HP:=Hq (show bV ⟨0,F,T,0,L,k,N⟩=false by simp only[aES] at hr;obtain⟨⟨h1,h2⟩,h3⟩:=hr;simp[bV,h1,h2,h3,Ne.symm hL]);have HO:=Hq (λw1=>NJ F T k N true w1 hr);have HM:=Hq (λw1=>yY F T k N w1);open aqy in exact Iw
theorem yX (F:Int) (T:Int) (k:ByteArray) (N:Int) (w:World) (hr:(mV F T&&keyOk k.data.toList&&fH N)=true):Calls prog 238 #[nZ ⟨0,F,T,0,0,k,N⟩] w (dM w (.tuple #[xE ⟨0,F,T,0,0,k,N⟩,.bool (bV ⟨0,F,T,0,0,k,N⟩)])):=by
 have HP:=Hq (show bV ⟨0,F,T,0,0,k,N⟩=true by simp only[aES] at hr;obtain⟨⟨h1,h2⟩,h3⟩:=hr;simp[bV,h1,h2,h3]);have HO:=Hq (λw1=>NJ F T k N true w1 hr);have HM:=Hq (λw1=>yY F T k N w1);open aqx in exact Iw
theorem Co (hr:(mV F T&&fH I&&decide (1<=L)&&decide (L<=I)&&keyOk k.data.toList&&fH N)=false):Calls prog 238 #[nZ ⟨1,F,T,I,L,k,N⟩] w (dM w (.tuple #[xE ⟨1,F,T,I,L,k,N⟩,.bool (bV ⟨1,F,T,I,L,k,N⟩)])):=by
 have HP:=Hq (show bV ⟨1,F,T,I,L,k,N⟩=false by simp only[Bool.and_eq_false_iff,aGM] at hr;rcases hr with((((h|h)|h)|h)|h)|h<;>simp[bV,h]<;>omega);have HO:=Hq (λw1=>aje F T I L k N false w1 hr);open aqw in exact Iw
theorem AQ (hr:(mV F T&&fH I&&decide (1<=L)&&decide (L<=I)&&keyOk k.data.toList&&fH N)=true):Calls prog 238 #[nZ ⟨1,F,T,I,L,k,N⟩] w (dM w (.tuple #[xE ⟨1,F,T,I,L,k,N⟩,.bool (bV ⟨1,F,T,I,L,k,N⟩)])):=by
 have HP:=Hq (show bV ⟨1,F,T,I,L,k,N⟩=true by simp only[aES,aFo] at hr;obtain⟨⟨⟨⟨⟨h1,h2⟩,h3⟩,h4⟩,h5⟩,h6⟩:=hr;simp[bV,h1,h2,h3,h4,h5,h6]);have HO:=Hq (λw1=>aje F T I L k N true w1 hr);have HM:=Hq (λw1=>YN F T I L k N w1);open aqv in exact Iw
theorem Cn (hr:(mV F T&&fH I)=false):Calls prog 238 #[nZ ⟨2,F,T,I,L,k,N⟩] w (dM w (.tuple #[xE ⟨2,F,T,I,L,k,N⟩,.bool (bV ⟨2,F,T,I,L,k,N⟩)])):=by
 have HP:=Hq (show bV ⟨2,F,T,I,L,k,N⟩=false by simp only[Bool.and_eq_false_iff] at hr;rcases hr with h|h<;>simp[bV,h]);have HO:=Hq (λw1=>OZ F T I false w1 hr);open aqu in exact Iw
theorem AO (hr:(mV F T&&fH I)=true) (hL:¬0=L):Calls prog 238 #[nZ ⟨2,F,T,I,L,k,N⟩] w (dM w (.tuple #[xE ⟨2,F,T,I,L,k,N⟩,.bool (bV ⟨2,F,T,I,L,k,N⟩)])):=by
 have HP:=Hq (show bV ⟨2,F,T,I,L,k,N⟩=false by simp only[aES] at hr;obtain⟨h1,h2⟩:=hr;simp[bV,h1,h2,Ne.symm hL]);have HO:=Hq (λw1=>OZ F T I true w1 hr);have HM:=Hq (λw1=>xJ F T I w1);open aqt in exact Iw
theorem AL (F:Int) (T:Int) (I:Int) (k:ByteArray) (N:Int) (w:World) (hr:(mV F T&&fH I)=true) (hk:¬k.size=0):Calls prog 238 #[nZ ⟨2,F,T,I,0,k,N⟩] w (dM w (.tuple #[xE ⟨2,F,T,I,0,k,N⟩,.bool (bV ⟨2,F,T,I,0,k,N⟩)])):=by
 have HP:=Hq (show bV ⟨2,F,T,I,0,k,N⟩=false by simp only[aES] at hr;obtain⟨h1,h2⟩:=hr;simp[bV,h1,h2,hk]);have HO:=Hq (λw1=>OZ F T I true w1 hr);have HM:=Hq (λw1=>xJ F T I w1);clear hr;have hne:¬k.toList=[]:=by rw [aFB];intro h;have:=aZ k;rw [h] at this;simp at this;omega
 have hne2:¬[]=k.toList:=λh=>hne h.symm
 clear hk;go_in
 go_upto_region 11 with fail;refine wp_at (λV hV=>?_);have hblk:V.heap[w.heap.size]?=some (.cells (bQ 2 F T I 0 k N) 70 (0,0)):=by rw [hV,aEZ _ _ _ Aac];exact aEK w _
 open aAv in exact Yk2
theorem Eb (F:Int) (T:Int) (I:Int) (N:Int) (w:World) (hr:(mV F T&&fH I)=true) (hN:¬0=N):Calls prog 238 #[nZ ⟨2,F,T,I,0,ByteArray.empty,N⟩] w (dM w (.tuple #[xE ⟨2,F,T,I,0,ByteArray.empty,N⟩,.bool (bV ⟨2,F,T,I,0,ByteArray.empty,N⟩)])):=by
 have HP:=Hq (show bV ⟨2,F,T,I,0,ByteArray.empty,N⟩=false by simp only[aES] at hr;obtain⟨h1,h2⟩:=hr;simp[bV,h1,h2,Ne.symm hN]);have HO:=Hq (λw1=>OZ F T I true w1 hr);have HM:=Hq (λw1=>xJ F T I w1);open aqs in exact Iw
theorem AP (F:Int) (T:Int) (I:Int) (w:World) (hr:(mV F T&&fH I)=true):Calls prog 238 #[nZ ⟨2,F,T,I,0,ByteArray.empty,0⟩] w (dM w (.tuple #[xE ⟨2,F,T,I,0,ByteArray.empty,0⟩,.bool (bV ⟨2,F,T,I,0,ByteArray.empty,0⟩)])):=by
 have HP:=Hq (show bV ⟨2,F,T,I,0,ByteArray.empty,0⟩=true by simp only[aES] at hr;obtain⟨h1,h2⟩:=hr;simp[bV,h1,h2]);have HO:=Hq (λw1=>OZ F T I true w1 hr);have HM:=Hq (λw1=>xJ F T I w1);open aqr in exact Iw
theorem F5 (K F T I L:Int) (k:ByteArray) (N:Int) (w:World) (k0:¬K=0) (k1:¬K=1) (k2:¬K=2):Calls prog 238 #[nZ ⟨K,F,T,I,L,k,N⟩] w (dM w (.tuple #[xE ⟨K,F,T,I,L,k,N⟩,.bool (bV ⟨K,F,T,I,L,k,N⟩)])):=by
 have HP:=Hq (show bV ⟨K,F,T,I,L,k,N⟩=false by simp[bV,k0,k1,k2]);have HV:=Hq (show xE ⟨K,F,T,I,L,k,N⟩= .nilIface by simp[xE,k0,k1,k2]);go_in
 go_wp2_with fail;exact aET (v:= .tuple #[.nilIface,.bool false]) (by simp[results,results238,go_sem]) rfl ⟨by rw [ah HP,ah HV],((aEY _ _).alloc (aEM _) _).alloc Aac _⟩
theorem YL (m:Mg) (w:World):Calls prog 238 #[nZ m] w (dM w (.tuple #[xE m,.bool (bV m)])):=by
 obtain⟨K,F,T,I,L,k,N⟩:=m;by_cases k0:K=0
 .subst k0;cases hr:(mV F T&&keyOk k.data.toList&&fH N)
  .exact AU F T I L k N w hr
  by_cases hI:0=I
  .subst hI;by_cases hL:0=L
   .subst hL;exact yX F T k N w hr
   .exact yV F T L k N w hr hL
  .exact AR F T I L k N w hr hI
 by_cases k1:K=1
 .subst k1;cases hr:(mV F T&&fH I&&decide (1<=L)&&decide (L<=I)&&keyOk k.data.toList&&fH N)
  .exact Co F T I L k N w hr
  .exact AQ F T I L k N w hr
 by_cases k2:K=2
 .subst k2;cases hr:(mV F T&&fH I)
  .exact Cn F T I L k N w hr
  by_cases hL:0=L
  .subst hL;by_cases hk:k.size=0
   .obtain rfl:=eq_empty k hk;by_cases hN:0=N
    .subst hN;exact AP F T I w hr
    .exact Eb F T I N w hr hN
   .exact AL F T I k N w hr hk
  .exact AO F T I L k N w hr hL
 exact F5 K F T I L k N w k0 k1 k2
theorem J7 (m:Mg) (w:World):Calls prog 213 #[nZ m] w (dM w (.bool (bV m))):=by
 have HM:=Hq (λw1=>YL m w1);generalize bV m=r at *;generalize xE m=v at *;obtain⟨K,F,T,I,L,k,N⟩:=m;go_in
 go_wp2_with fail;refine(HM _).mono ?_;rintro e w1 ⟨rfl,hb1⟩;go_wp2
 go_ret;exact⟨rfl,(au w _).trans (hb1.mono Aac)⟩
theorem Ef (K F T I L:Int) (k:ByteArray) (N:Int) (w:World) (_hs:k.size<=maxLen) (hr:mV F T=false):Calls prog 152 #[nZ ⟨K,F,T,I,L,k,N⟩] w (dM w (.bool (bV ⟨K,F,T,I,L,k,N⟩))):=by
 cases h1:uV F
 case' false=>
  have HP:=Hq (show bV ⟨K,F,T,I,L,k,N⟩=false by simp[bV,mV,h1]);have H1:=Hq (λw1=>nQ F false w1 h1);clear h1 hr;exact air
 have H1:=Hq (λw1=>nQ F true w1 h1);cases h2:uV T
 case' false=>
  have HP:=Hq (show bV ⟨K,F,T,I,L,k,N⟩=false by simp[bV,mV,h2]);have H2:=Hq (λw1=>nQ T false w1 h2);clear h1 h2 hr;exact ahR
 have H2:=Hq (λw1=>nQ T true w1 h2)
 have hft:F=T:=by
  rcases Decidable.em (F=T) with h|h
  .exact h
  .simp[mV,h1,h2,h] at hr
 have HP:=Hq (show bV ⟨K,F,T,I,L,k,N⟩=false by simp[bV,mV,hft]);clear h1 h2 hr;subst hft;exact air
theorem GN (_K F T I L:Int) (k:ByteArray) (N:Int) (w:World) (hs:k.size<=maxLen) (hr:mV F T=true):Calls prog 152 #[nZ ⟨0,F,T,I,L,k,N⟩] w (dM w (.bool (bV ⟨0,F,T,I,L,k,N⟩))):=by
 open ano in exact aeF
theorem Jo (_K F T I L:Int) (k:ByteArray) (N:Int) (w:World) (hs:k.size<=maxLen) (hr:mV F T=true):Calls prog 152 #[nZ ⟨1,F,T,I,L,k,N⟩] w (dM w (.bool (bV ⟨1,F,T,I,L,k,N⟩))):=by
 open anm in exact aeF
theorem Jm (_K F T I L:Int) (k:ByteArray) (N:Int) (w:World) (hs:k.size<=maxLen) (hr:mV F T=true):Calls prog 152 #[nZ ⟨2,F,T,I,L,k,N⟩] w (dM w (.bool (bV ⟨2,F,T,I,L,k,N⟩))):=by
 open anl in exact aeF
theorem GL (K F T I L:Int) (k:ByteArray) (N:Int) (w:World) (_hs:k.size<=maxLen) (hr:mV F T=true) (k0:¬K=0) (k1:¬K=1) (k2:¬K=2):Calls prog 152 #[nZ ⟨K,F,T,I,L,k,N⟩] w (dM w (.bool (bV ⟨K,F,T,I,L,k,N⟩))):=by
 open ank in exact aeF
theorem kN (m:Mg) (w:World) (hs:m.k.size<=maxLen):Calls prog 152 #[nZ m] w (dM w (.bool (bV m))):=by
 obtain⟨K,F,T,I,L,k,N⟩:=m;cases hr:mV F T
 .exact Ef K F T I L k N w hs hr
 by_cases k0:K=0
 .subst k0;exact GN 0 F T I L k N w hs hr
 by_cases k1:K=1
 .subst k1;exact Jo 0 F T I L k N w hs hr
 by_cases k2:K=2
 .subst k2;exact Jm 0 F T I L k N w hs hr
 exact GL K F T I L k N w hs hr k0 k1 k2
theorem Js (no:Int) (k:ByteArray) (n:Int) (m:Mg) (w:World) (hs:k.size<=maxLen):Calls prog 126 #[jP ⟨0,no,k,n,m⟩] w (dM w (.bool (bH ⟨0,no,k,n,m⟩))):=by
 obtain⟨mK,mF,mT,mI,mL,mk,mN⟩:=m;obtain⟨R,hR⟩:∃R,bH ⟨0,no,k,n,⟨mK,mF,mT,mI,mL,mk,mN⟩⟩=R:=⟨_,rfl⟩;exact Zk5
theorem Ju (no:Int) (k:ByteArray) (n:Int) (m:Mg) (w:World) (hs:k.size<=maxLen):Calls prog 126 #[jP ⟨3,no,k,n,m⟩] w (dM w (.bool (bH ⟨3,no,k,n,m⟩))):=by
 obtain⟨mK,mF,mT,mI,mL,mk,mN⟩:=m;obtain⟨R,hR⟩:∃R,bH ⟨3,no,k,n,⟨mK,mF,mT,mI,mL,mk,mN⟩⟩=R:=⟨_,rfl⟩;exact Zk5
theorem Jp (no:Int) (k:ByteArray) (n:Int) (m:Mg) (w:World) (hs:k.size<=maxLen):Calls prog 126 #[jP ⟨4,no,k,n,m⟩] w (dM w (.bool (bH ⟨4,no,k,n,m⟩))):=by
 obtain⟨mK,mF,mT,mI,mL,mk,mN⟩:=m;obtain⟨R,hR⟩:∃R,bH ⟨4,no,k,n,⟨mK,mF,mT,mI,mL,mk,mN⟩⟩=R:=⟨_,rfl⟩;exact Zk5
theorem GU (no:Int) (k:ByteArray) (n:Int) (m:Mg) (w:World) (hs:k.size<=maxLen):Calls prog 126 #[jP ⟨1,no,k,n,m⟩] w (dM w (.bool (bH ⟨1,no,k,n,m⟩))):=by
 obtain⟨mK,mF,mT,mI,mL,mk,mN⟩:=m;obtain⟨R,hR⟩:∃R,bH ⟨1,no,k,n,⟨mK,mF,mT,mI,mL,mk,mN⟩⟩=R:=⟨_,rfl⟩;rw [hR];have HR:=Hq hR;clear hR;cases hk:keyOk k.data.toList
 .have HK:=Hq (λw1=>oz k false w1 hs hk);cases hn:fH n
  .have HN:=Hq (λw1=>eG n false w1 hn);cases ho:fH no
   .have HO:=Hq (λw1=>eG no false w1 ho);have HP:=Hq (show R=(false&&false&&false&&lU ⟨mK,mF,mT,mI,mL,mk,mN⟩) by rw [<-ah HR];simp[bH,hk,hn,ho]);exact OV
   .have HO:=Hq (λw1=>eG no true w1 ho);have HP:=Hq (show R=(false&&false&&true&&lU ⟨mK,mF,mT,mI,mL,mk,mN⟩) by rw [<-ah HR];simp[bH,hk,hn,ho]);exact OV
  .have HN:=Hq (λw1=>eG n true w1 hn);cases ho:fH no
   .have HO:=Hq (λw1=>eG no false w1 ho);have HP:=Hq (show R=(false&&true&&false&&lU ⟨mK,mF,mT,mI,mL,mk,mN⟩) by rw [<-ah HR];simp[bH,hk,hn,ho]);exact OV
   .have HO:=Hq (λw1=>eG no true w1 ho);have HP:=Hq (show R=(false&&true&&true&&lU ⟨mK,mF,mT,mI,mL,mk,mN⟩) by rw [<-ah HR];simp[bH,hk,hn,ho]);exact OV
 .have HK:=Hq (λw1=>oz k true w1 hs hk);cases hn:fH n
  .have HN:=Hq (λw1=>eG n false w1 hn);cases ho:fH no
   .have HO:=Hq (λw1=>eG no false w1 ho);have HP:=Hq (show R=(true&&false&&false&&lU ⟨mK,mF,mT,mI,mL,mk,mN⟩) by rw [<-ah HR];simp[bH,hk,hn,ho]);exact OV
   .have HO:=Hq (λw1=>eG no true w1 ho);have HP:=Hq (show R=(true&&false&&true&&lU ⟨mK,mF,mT,mI,mL,mk,mN⟩) by rw [<-ah HR];simp[bH,hk,hn,ho]);exact OV
  .have HN:=Hq (λw1=>eG n true w1 hn);cases ho:fH no
   .have HO:=Hq (λw1=>eG no false w1 ho);have HP:=Hq (show R=(true&&true&&false&&lU ⟨mK,mF,mT,mI,mL,mk,mN⟩) by rw [<-ah HR];simp[bH,hk,hn,ho]);exact OV
   .have HO:=Hq (λw1=>eG no true w1 ho);have HP:=Hq (show R=(true&&true&&true&&lU ⟨mK,mF,mT,mI,mL,mk,mN⟩) by rw [<-ah HR];simp[bH,hk,hn,ho]);exact OV
theorem CP (no:Int) (k:ByteArray) (n:Int) (m:Mg) (w:World) (_hs:k.size<=maxLen):Calls prog 126 #[jP ⟨2,no,k,n,m⟩] w (dM w (.bool (bH ⟨2,no,k,n,m⟩))):=by
 obtain⟨mK,mF,mT,mI,mL,mk,mN⟩:=m;obtain⟨R,hR⟩:∃R,bH ⟨2,no,k,n,⟨mK,mF,mT,mI,mL,mk,mN⟩⟩=R:=⟨_,rfl⟩;rw [hR];have HR:=Hq hR;clear hR;cases ho:fH no
 .have HO:=Hq (λw1=>eG no false w1 ho);have HP:=Hq (show R=(decide (k.toList=[])&&decide (n=0)&&false&&lU ⟨mK,mF,mT,mI,mL,mk,mN⟩) by rw [<-ah HR];simp[bH,ho]);exact ahD
 .have HO:=Hq (λw1=>eG no true w1 ho);have HP:=Hq (show R=(decide (k.toList=[])&&decide (n=0)&&true&&lU ⟨mK,mF,mT,mI,mL,mk,mN⟩) by rw [<-ah HR];simp[bH,ho]);exact ahD
theorem Jt (no:Int) (k:ByteArray) (n:Int) (m:Mg) (w:World) (_hs:k.size<=maxLen):Calls prog 126 #[jP ⟨5,no,k,n,m⟩] w (dM w (.bool (bH ⟨5,no,k,n,m⟩))):=by
 open asM in exact agI
theorem Jr (no:Int) (k:ByteArray) (n:Int) (m:Mg) (w:World) (hm:m.k.size<=maxLen):Calls prog 126 #[jP ⟨6,no,k,n,m⟩] w (dM w (.bool (bH ⟨6,no,k,n,m⟩))):=by
 have HM:=Hq (λw1=>kN m w1 hm);open aua in exact agZ
theorem Jq (K no:Int) (k:ByteArray) (n:Int) (m:Mg) (w:World) (h0:¬K=0) (h1:¬K=1) (h2:¬K=2) (h3:¬K=3) (h4:¬K=4) (h5:¬K=5) (h6:¬K=6):Calls prog 126 #[jP ⟨K,no,k,n,m⟩] w (dM w (.bool (bH ⟨K,no,k,n,m⟩))):=by
 have HP:=Hq (show bH ⟨K,no,k,n,m⟩=false by simp[bH,h0,h1,h2,h3,h4,h5,h6]);obtain⟨mK,mF,mT,mI,mL,mk,mN⟩:=m;go_in
 go_wp2_with fail;exact xW
theorem jE (o:gJ) (w:World) (hs:o.k.size<=maxLen) (hm:o.m.k.size<=maxLen):Calls prog 126 #[jP o] w (dM w (.bool (bH o))):=by
 obtain⟨K,no,k,n,m⟩:=o;by_cases h0:K=0
 .subst h0;exact Js no k n m w hs
 by_cases h1:K=1
 .subst h1;exact GU no k n m w hs
 by_cases h2:K=2
 .subst h2;exact CP no k n m w hs
 by_cases h3:K=3
 .subst h3;exact Ju no k n m w hs
 by_cases h4:K=4
 .subst h4;exact Jp no k n m w hs
 by_cases h5:K=5
 .subst h5;exact Jt no k n m w hs
 by_cases h6:K=6
 .subst h6;exact Jr no k n m w hm
 exact Jq K no k n m w h0 h1 h2 h3 h4 h5 h6
theorem Jv (m:Mg) (w:World) (hs:m.k.size<=maxLen) (h:bV m=false):Calls prog 149 #[nZ m] w (dM w (.string ByteArray.empty)):=by
 have HO:=Hq (λw1=>kN m w1 hs);rw [h] at HO;clear h hs;obtain⟨K,F,T,I,L,k,N⟩:=m;go_in
 exact ah2
theorem GY (m:Mg) (w:World) (hs:m.k.size<=maxLen) (h:bV m=true):Calls prog 149 #[nZ m] w (dM w (.string (AV m))):=by
 have hK:=afw h;have HO:=Hq (λw1=>kN m w1 hs);rw [h] at HO;clear h hs;obtain⟨K,F,T,I,L,k,N⟩:=m;obtain⟨hK0,hK2⟩:=hK;dsimp only at hK0 hK2
 have hw8:IntKind.u8.wrap K=K:=by
  have h3:K=0\/K=1\/K=2:=Aaa
  rcases h3 with rfl|rfl|rfl<;>rfl
 show Calls prog 149 #[nZ ⟨K,F,T,I,L,k,N⟩] w (dM w (.string (kb K++mq F++mq T++mq I++mq L++oN k++mq N)))
 have N1:=Hq (λw1=>lI F w1);have N2:=Hq (λw1=>lI T w1);have N3:=Hq (λw1=>lI I w1);have N4:=Hq (λw1=>lI L w1);have N5:=Hq (λw1=>wV k w1);have N6:=Hq (λw1=>lI N w1);have s1:=nL F;have s2:=nL T;have s3:=nL I;have s4:=nL L;have s5:=CF k;have s6:=nL N;have s0:=WJ K;have HCV:=Hq (λw1 g=>Yc w1 g K ⟨hK0,hK2⟩);generalize mq F=bF at *;generalize mq T=bT at *;generalize mq I=bI at *;generalize mq L=bL at *;generalize oN k=bk at *;generalize mq N=bN at *;generalize kb K=bK at *;have a1:=λw1=>aFT (P:=prog) w1 bK bF Aaa
 have a2:=λw1=>aFT (P:=prog) w1 (bK++bF) bT (by rw [ByteArray.size_append];omega)
 have a3:=λw1=>aFT (P:=prog) w1 (bK++bF++bT) bI Abn
 have a4:=λw1=>aFT (P:=prog) w1 (bK++bF++bT++bI) bL Abn
 have a5:=λw1=>aFT (P:=prog) w1 (bK++bF++bT++bI++bL) bk Abn
 have a6:=λw1=>aFT (P:=prog) w1 (bK++bF++bT++bI++bL++bk) bN Abn
 have HA:=Hq (And.intro a1 (And.intro a2 (And.intro a3 (And.intro a4 (And.intro a5 a6)))));clear s0 s1 s2 s3 s4 s5 s6 a1 a2 a3 a4 a5 a6 hK0 hK2;go_in
 go_wp2_with fail;refine(HO _).mono ?_;rintro e w1 ⟨rfl,hb1⟩;have hA:=aI (aEK w _) hb1;have hB:=(au w _).trans (hb1.mono Aac);obtain⟨c0,c1,c2,c3,c4,c5,c6⟩:=uF hA;have hz:=cK hA;clear hb1;go_upto_region 3 with fail;refine wp_at (λV hV=>?_);have hblk:V.heap[w.heap.size]?=some (.cells (bQ K F T I L k N) 70 (0,0)):=by rw [hV];exact hA
 have wY:=Hq (show aH w V by rw [hV];exact hB);have hgV:=cK hblk;obtain⟨p0,p1,p2,p3,p4,p5,p6⟩:=uF hblk;clear hV hblk hA hB c0 c1 c2 c3 c4 c5 c6 hz;open anI in exact OP
theorem GX (m:Mg) (w:World) (hs:m.k.size<=maxLen):Calls prog 149 #[nZ m] w (dM w (.string (jL m))):=by
 cases h:bV m
 .rw [Cw h];exact Jv m w hs h
 .rw [zi h];exact GY m w hs h
theorem KQ (o:gJ) (w:World) (hs:o.k.size<=maxLen) (hm:o.m.k.size<=maxLen):Calls prog 150 #[jP o] w (dM w (.bool (bH o))):=by
 have HO:=Hq (λw1=>jE o w1 hs hm);generalize bH o=r at *;obtain⟨K,no,k,n,⟨mK,mF,mT,mI,mL,mk,mN⟩⟩:=o;go_in
 exact ahZ
theorem Nr (o:gJ) (w:World) (hs:o.k.size<=maxLen) (hm:o.m.k.size<=maxLen) (h:bH o=false):Calls prog 125 #[jP o] w (dM w (.string ByteArray.empty)):=by
 have HO:=Hq (λw1=>KQ o w1 hs hm);rw [h] at HO;clear h hs hm;obtain⟨K,no,k,n,⟨mK,mF,mT,mI,mL,mk,mN⟩⟩:=o;go_in
 exact ah2
theorem Jw (o:gJ) (w:World) (hs:o.k.size<=maxLen) (hm:o.m.k.size<=maxLen) (h:bH o=true):Calls prog 125 #[jP o] w (dM w (.string (Bc o))):=by
 have hK:=YZ h;have HO:=Hq (λw1=>KQ o w1 hs hm);have NM:=Hq (λw1=>GX o.m w1 hm);rw [h] at HO;clear h hs hm;obtain⟨K,no,k,n,m⟩:=o;obtain⟨hK0,hK6⟩:=hK;dsimp only at hK0 hK6 NM;have hw8:=Vk K hK0 hK6;show Calls prog 125 #[jP ⟨K,no,k,n,m⟩] w (dM w (.string (kb K++mq no++oN k++mq n++oN (jL m))))
 have N1:=Hq (λw1=>lI no w1);have N2:=Hq (λw1=>wV k w1);have N3:=Hq (λw1=>lI n w1);have N4:=Hq (λw1=>wV (jL m) w1);have s1:=nL no;have s2:=CF k;have s3:=nL n;have s4:=CF (jL m);have s0:=WJ K;have HCV:=Hq (λw1 g=>TA w1 g K ⟨hK0,hK6⟩);generalize mq no=b1 at *;generalize oN k=b2 at *;generalize mq n=b3 at *;generalize oN (jL m)=b4 at *;generalize jL m=bM at *;generalize kb K=bK at *;obtain⟨mK,mF,mT,mI,mL,mk,mN⟩:=m;have a1:=λw1=>aFT (P:=prog) w1 bK b1 Aaa
 have a2:=λw1=>aFT (P:=prog) w1 (bK++b1) b2 Abn
 have a3:=λw1=>aFT (P:=prog) w1 (bK++b1++b2) b3 Abn
 have a4:=λw1=>aFT (P:=prog) w1 (bK++b1++b2++b3) b4 Abn
 have HA:=Hq (And.intro a1 (And.intro a2 (And.intro a3 a4)));clear s0 s1 s2 s3 s4 a1 a2 a3 a4 hK0 hK6;go_in
 go_wp2_with fail;refine(HO _).mono ?_;rintro e w1 ⟨rfl,hb1⟩;have hA:=aI (aEK w _) hb1;have hB:=(au w _).trans (hb1.mono Aac);obtain⟨c0,c1,c2,c3,c4,c5,c6,c7,c8,c9,c10⟩:=Wq hA;have hz:=cK hA;clear hb1;go_upto_region 3 with fail;refine wp_at (λV hV=>?_);have hblk:V.heap[w.heap.size]?=some (.cells (bJ K no k n mK mF mT mI mL mk mN) 73 (0,0)):=by rw [hV];exact hA
 have wY:=Hq (show aH w V by rw [hV];exact hB);have hgV:=cK hblk;obtain⟨p0,p1,p2,p3,p4,p5,p6,p7,p8,p9,oD⟩:=Wq hblk;clear hV hblk hA hB c0 c1 c2 c3 c4 c5 c6 c7 c8 c9 c10 hz;open anJ in exact OP
theorem ZA (o:gJ) (w:World) (hs:o.k.size<=maxLen) (hm:o.m.k.size<=maxLen):Calls prog 125 #[jP o] w (dM w (.string (wP o))):=by
 cases h:bH o
 .rw [QI h];exact Nr o w hs hm h
 .rw [Cz h];exact Jw o w hs hm h
end Go.Proofs.YtbolgdleijjgfaaGreatDoor
