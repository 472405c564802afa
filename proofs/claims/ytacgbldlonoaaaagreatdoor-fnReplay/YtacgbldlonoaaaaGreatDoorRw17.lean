/- Parts. -/
import Derived.Test.YtacgbldlonoaaaaGreatDoorRw16
namespace Go.Proofs.YtacgbldlonoaaaaGreatDoor
open Go.Proofs.Tryz
set_option maxHeartbeats 8000000
open Go.RowKit
open Mth
variable (F:Int) (T:Int) (I:Int) (L:Int) (k:ByteArray) (N:Int) (w:World) {g c:Nat} {W:World} {o o':fP} {t:TypeId}
theorem aQ {w:World} {a0 a1 a2 a3 a4 a5 a6 a7 a8 a9 Sr:Value} (h:w.heap[g]?=some (.cells #[a0,a1,a2,a3,a4,a5,a6,a7,a8,a9,Sr] t (0,0))):
 (w.cell? ⟨g,0,none⟩=some a0/\w.cell? ⟨g,1,none⟩=some a1/\w.cell? ⟨g,2,none⟩=some a2/\w.cell? ⟨g,3,none⟩=some a3/\w.cell? ⟨g,4,none⟩=some a4/\w.cell? ⟨g,5,none⟩=some a5/\w.cell? ⟨g,6,none⟩=some a6/\w.cell? ⟨g,7,none⟩=some a7/\w.cell? ⟨g,8,none⟩=some a8/\w.cell? ⟨g,9,none⟩=some a9/\w.cell? ⟨g,10,none⟩=some Sr)/\(w.frozen? ⟨g,0,none⟩=false/\w.frozen? ⟨g,1,none⟩=false/\w.frozen? ⟨g,2,none⟩=false/\w.frozen? ⟨g,3,none⟩=false/\w.frozen? ⟨g,4,none⟩=false/\w.frozen? ⟨g,5,none⟩=false/\w.frozen? ⟨g,6,none⟩=false/\w.frozen? ⟨g,7,none⟩=false/\w.frozen? ⟨g,8,none⟩=false/\w.frozen? ⟨g,9,none⟩=false/\w.frozen? ⟨g,10,none⟩=false):=by
 have hf:∀i,w.frozen? ⟨g,i,none⟩=false:=λi=>by unfold World.frozen?;rw [h];simp
 have hc:∀i,w.cell? ⟨g,i,none⟩=#[a0,a1,a2,a3,a4,a5,a6,a7,a8,a9,Sr][i]?:=λi=>cell_of_row w g i _ t (0,0) h
 exact⟨⟨hc 0,hc 1,hc 2,hc 3,hc 4,hc 5,hc 6,hc 7,hc 8,hc 9,hc 10⟩,hf 0,hf 1,hf 2,hf 3,hf 4,hf 5,hf 6,hf 7,hf 8,hf 9,hf 10⟩
theorem gF {w:World} {a0 a1 a2 a3 a4 a5 a6 a7 a8 a9 Sr b0 b1 b2 b3 b4 b5 b6 b7 b8 b9 b10:Value} (h:w.heap[g]?=some (.cells #[a0,a1,a2,a3,a4,a5,a6,a7,a8,a9,Sr] t (0,0))):(((((((((((w.setCell ⟨g,0,none⟩ b0).setCell ⟨g,1,none⟩ b1).setCell ⟨g,2,none⟩ b2).setCell ⟨g,3,none⟩ b3).setCell ⟨g,4,none⟩ b4).setCell ⟨g,5,none⟩ b5).setCell ⟨g,6,none⟩ b6).setCell ⟨g,7,none⟩ b7).setCell ⟨g,8,none⟩ b8).setCell ⟨g,9,none⟩ b9).setCell ⟨g,10,none⟩ b10).heap[g]?=some (.cells #[b0,b1,b2,b3,b4,b5,b6,b7,b8,b9,b10] t (0,0)):=
 GR.setW_blk [b0,b1,b2,b3,b4,b5,b6,b7,b8,b9,b10] (o:=0) (xs:=[a0,a1,a2,a3,a4,a5,a6,a7,a8,a9,Sr]) h
theorem dw {a w:World} {B:Nat} {b0 b1 b2 b3 b4 b5 b6 b7 b8 b9 b10:Value} (h:Below B a w) (hg:B<=g):Below B a (((((((((((w.setCell ⟨g,0,none⟩ b0).setCell ⟨g,1,none⟩ b1).setCell ⟨g,2,none⟩ b2).setCell ⟨g,3,none⟩ b3).setCell ⟨g,4,none⟩ b4).setCell ⟨g,5,none⟩ b5).setCell ⟨g,6,none⟩ b6).setCell ⟨g,7,none⟩ b7).setCell ⟨g,8,none⟩ b8).setCell ⟨g,9,none⟩ b9).setCell ⟨g,10,none⟩ b10):=
 GR.setW_below hg [b0,b1,b2,b3,b4,b5,b6,b7,b8,b9,b10] (o:=0) h
theorem iJ {P:Program} {fn:Func} {Q:Ending->World->Prop} {x:Exit} {act:Act} (h:∀W',W'=W->bodyPost P fn Q x act W'):bodyPost P fn Q x act W:=h W rfl
theorem iO (w:World) (a b:Obj):((w.alloc a).alloc b).heap[w.heap.size]?=some a/\((w.alloc a).alloc b).heap[w.heap.size+1]?=some b/\Below w.heap.size w ((w.alloc a).alloc b):=by
 have e1:(w.alloc a).heap.size=w.heap.size+1:=Aac
 have h4:=heap_alloc_new (w.alloc a) b;have h6:=Below.heap_alloc (w.alloc a) b w.heap.size Aaa;rw [e1] at h4;exact⟨h6.trans (heap_alloc_new w a),h4,(au w a).alloc Aaa b⟩
set_option maxRecDepth 100000
open Mth
def wR (m:Mg):Value:=
 if m.K=0 then .iface 154 (.agg #[.int .i64 m.F,.int .i64 m.T,.string m.k,.int .i64 m.N])
 else if m.K=1 then .iface 156 (.agg #[.int .i64 m.F,.int .i64 m.T,.int .i64 m.I,.int .i64 m.L,.string m.k,.int .i64 m.N])
 else if m.K=2 then .iface 158 (.agg #[.int .i64 m.F,.int .i64 m.T,.int .i64 m.I])
 else .nilIface
theorem VF (v:Value) (w:World):(method 467 154 v "loop.example/g00264/impl.ok").run prog w= .ok (297,v) w:=Aab
theorem acd (v:Value) (w:World):(method 467 156 v "loop.example/g00264/impl.ok").run prog w= .ok (298,v) w:=Aab
theorem ab9 (v:Value) (w:World):(method 467 158 v "loop.example/g00264/impl.ok").run prog w= .ok (299,v) w:=Aab
theorem zZ (hr:(nP F T&&keyOk k.data.toList&&fV N)=false):Calls prog 65 #[qg ⟨0,F,T,I,L,k,N⟩] w (fF w (.tuple #[wR ⟨0,F,T,I,L,k,N⟩,.bool (bY ⟨0,F,T,I,L,k,N⟩)])):=by
 have HP:=Hq (show bY ⟨0,F,T,I,L,k,N⟩=false by simp only[Bool.and_eq_false_iff] at hr;rcases hr with(h|h)|h<;>simp[bY,h]);have HO:=Hq (λw1=>Nq F T k N false w1 hr);open aqc in exact xM
theorem zY (hr:(nP F T&&keyOk k.data.toList&&fV N)=true) (hI:¬0=I):Calls prog 65 #[qg ⟨0,F,T,I,L,k,N⟩] w (fF w (.tuple #[wR ⟨0,F,T,I,L,k,N⟩,.bool (bY ⟨0,F,T,I,L,k,N⟩)])):=by
 have HP:=Hq (show bY ⟨0,F,T,I,L,k,N⟩=false by simp only[Bool.and_eq_true] at hr;obtain⟨⟨h1,h2⟩,h3⟩:=hr;simp[bY,h1,h2,h3,Ne.symm hI]);have HO:=Hq (λw1=>Nq F T k N true w1 hr);have HM:=Hq (λw1=>yE F T k N w1);open aqb in exact xM
theorem yC (F:Int) (T:Int) (L:Int) (k:ByteArray) (N:Int) (w:World) (hr:(nP F T&&keyOk k.data.toList&&fV N)=true) (hL:¬0=L):Calls prog 65 #[qg ⟨0,F,T,0,L,k,N⟩] w (fF w (.tuple #[wR ⟨0,F,T,0,L,k,N⟩,.bool (bY ⟨0,F,T,0,L,k,N⟩)])):=by
 have HP:=Hq (show bY ⟨0,F,T,0,L,k,N⟩=false by simp only[Bool.and_eq_true] at hr;obtain⟨⟨h1,h2⟩,h3⟩:=hr;simp[bY,h1,h2,h3,Ne.symm hL]);have HO:=Hq (λw1=>Nq F T k N true w1 hr);have HM:=Hq (λw1=>yE F T k N w1);open aqa in exact xM
theorem yD (F:Int) (T:Int) (k:ByteArray) (N:Int) (w:World) (hr:(nP F T&&keyOk k.data.toList&&fV N)=true):Calls prog 65 #[qg ⟨0,F,T,0,0,k,N⟩] w (fF w (.tuple #[wR ⟨0,F,T,0,0,k,N⟩,.bool (bY ⟨0,F,T,0,0,k,N⟩)])):=by
 have HP:=Hq (show bY ⟨0,F,T,0,0,k,N⟩=true by simp only[Bool.and_eq_true] at hr;obtain⟨⟨h1,h2⟩,h3⟩:=hr;simp[bY,h1,h2,h3]);have HO:=Hq (λw1=>Nq F T k N true w1 hr);have HM:=Hq (λw1=>yE F T k N w1);open ap9 in exact xM
theorem Co (hr:(nP F T&&fV I&&decide (1<=L)&&decide (L<=I)&&keyOk k.data.toList&&fV N)=false):Calls prog 65 #[qg ⟨1,F,T,I,L,k,N⟩] w (fF w (.tuple #[wR ⟨1,F,T,I,L,k,N⟩,.bool (bY ⟨1,F,T,I,L,k,N⟩)])):=by
 have HP:=Hq (show bY ⟨1,F,T,I,L,k,N⟩=false by simp only[Bool.and_eq_false_iff,decide_eq_false_iff_not] at hr;rcases hr with((((h|h)|h)|h)|h)|h<;>simp[bY,h]<;>omega);have HO:=Hq (λw1=>aii F T I L k N false w1 hr);open ap8 in exact xM
theorem zX (hr:(nP F T&&fV I&&decide (1<=L)&&decide (L<=I)&&keyOk k.data.toList&&fV N)=true):Calls prog 65 #[qg ⟨1,F,T,I,L,k,N⟩] w (fF w (.tuple #[wR ⟨1,F,T,I,L,k,N⟩,.bool (bY ⟨1,F,T,I,L,k,N⟩)])):=by
 have HP:=Hq (show bY ⟨1,F,T,I,L,k,N⟩=true by simp only[Bool.and_eq_true,decide_eq_true_iff] at hr;obtain⟨⟨⟨⟨⟨h1,h2⟩,h3⟩,h4⟩,h5⟩,h6⟩:=hr;simp[bY,h1,h2,h3,h4,h5,h6]);have HO:=Hq (λw1=>aii F T I L k N true w1 hr);have HM:=Hq (λw1=>XI F T I L k N w1);open ap7 in exact xM
theorem Cn (hr:(nP F T&&fV I)=false):Calls prog 65 #[qg ⟨2,F,T,I,L,k,N⟩] w (fF w (.tuple #[wR ⟨2,F,T,I,L,k,N⟩,.bool (bY ⟨2,F,T,I,L,k,N⟩)])):=by
 have HP:=Hq (show bY ⟨2,F,T,I,L,k,N⟩=false by simp only[Bool.and_eq_false_iff] at hr;rcases hr with h|h<;>simp[bY,h]);have HO:=Hq (λw1=>OL F T I false w1 hr);open ap6 in exact xM
theorem zV (hr:(nP F T&&fV I)=true) (hL:¬0=L):Calls prog 65 #[qg ⟨2,F,T,I,L,k,N⟩] w (fF w (.tuple #[wR ⟨2,F,T,I,L,k,N⟩,.bool (bY ⟨2,F,T,I,L,k,N⟩)])):=by
 have HP:=Hq (show bY ⟨2,F,T,I,L,k,N⟩=false by simp only[Bool.and_eq_true] at hr;obtain⟨h1,h2⟩:=hr;simp[bY,h1,h2,Ne.symm hL]);have HO:=Hq (λw1=>OL F T I true w1 hr);have HM:=Hq (λw1=>wU F T I w1);open ap5 in exact xM
theorem zU (F:Int) (T:Int) (I:Int) (k:ByteArray) (N:Int) (w:World) (hr:(nP F T&&fV I)=true) (hk:¬k.size=0):Calls prog 65 #[qg ⟨2,F,T,I,0,k,N⟩] w (fF w (.tuple #[wR ⟨2,F,T,I,0,k,N⟩,.bool (bY ⟨2,F,T,I,0,k,N⟩)])):=by
 have HP:=Hq (show bY ⟨2,F,T,I,0,k,N⟩=false by simp only[Bool.and_eq_true] at hr;obtain⟨h1,h2⟩:=hr;simp[bY,h1,h2,hk]);have HO:=Hq (λw1=>OL F T I true w1 hr);have HM:=Hq (λw1=>wU F T I w1);clear hr;have hne:¬k.toList=[]:=by rw [ByteArray.toList_eq];intro h;have:=aH k;rw [h] at this;simp at this;omega
 have hne2:¬[]=k.toList:=λh=>hne h.symm
 clear hk;go_in
 go_upto_region 11 with fail;refine wp_at (λV hV=>?_);have hblk:V.heap[w.heap.size]?=some (.cells (cK 2 F T I 0 k N) 32 (0,0)):=by rw [hV,Below.heap_alloc _ _ _ Aac];exact heap_alloc_new w _
 open azI in exact Yw6
theorem D6 (F:Int) (T:Int) (I:Int) (N:Int) (w:World) (hr:(nP F T&&fV I)=true) (hN:¬0=N):Calls prog 65 #[qg ⟨2,F,T,I,0,ByteArray.empty,N⟩] w (fF w (.tuple #[wR ⟨2,F,T,I,0,ByteArray.empty,N⟩,.bool (bY ⟨2,F,T,I,0,ByteArray.empty,N⟩)])):=by
 have HP:=Hq (show bY ⟨2,F,T,I,0,ByteArray.empty,N⟩=false by simp only[Bool.and_eq_true] at hr;obtain⟨h1,h2⟩:=hr;simp[bY,h1,h2,Ne.symm hN]);have HO:=Hq (λw1=>OL F T I true w1 hr);have HM:=Hq (λw1=>wU F T I w1);open ap4 in exact xM
theorem zW (F:Int) (T:Int) (I:Int) (w:World) (hr:(nP F T&&fV I)=true):Calls prog 65 #[qg ⟨2,F,T,I,0,ByteArray.empty,0⟩] w (fF w (.tuple #[wR ⟨2,F,T,I,0,ByteArray.empty,0⟩,.bool (bY ⟨2,F,T,I,0,ByteArray.empty,0⟩)])):=by
 have HP:=Hq (show bY ⟨2,F,T,I,0,ByteArray.empty,0⟩=true by simp only[Bool.and_eq_true] at hr;obtain⟨h1,h2⟩:=hr;simp[bY,h1,h2]);have HO:=Hq (λw1=>OL F T I true w1 hr);have HM:=Hq (λw1=>wU F T I w1);open ap3 in exact xM
theorem FV (K F T I L:Int) (k:ByteArray) (N:Int) (w:World) (k0:¬K=0) (k1:¬K=1) (k2:¬K=2):Calls prog 65 #[qg ⟨K,F,T,I,L,k,N⟩] w (fF w (.tuple #[wR ⟨K,F,T,I,L,k,N⟩,.bool (bY ⟨K,F,T,I,L,k,N⟩)])):=by
 have HP:=Hq (show bY ⟨K,F,T,I,L,k,N⟩=false by simp[bY,k0,k1,k2]);have HV:=Hq (show wR ⟨K,F,T,I,L,k,N⟩= .nilIface by simp[wR,k0,k1,k2]);go_in
 go_wp2_with fail;exact bodyPost_ret (v:= .tuple #[.nilIface,.bool false]) (by simp[results,results65,go_sem]) rfl ⟨by rw [ah HP,ah HV],((Below.refl _ _).alloc (Nat.le_refl _) _).alloc Aac _⟩
theorem XH (m:Mg) (w:World):Calls prog 65 #[qg m] w (fF w (.tuple #[wR m,.bool (bY m)])):=by
 obtain⟨K,F,T,I,L,k,N⟩:=m;by_cases k0:K=0
 .subst k0;cases hr:(nP F T&&keyOk k.data.toList&&fV N)
  .exact zZ F T I L k N w hr
  by_cases hI:0=I
  .subst hI;by_cases hL:0=L
   .subst hL;exact yD F T k N w hr
   .exact yC F T L k N w hr hL
  .exact zY F T I L k N w hr hI
 by_cases k1:K=1
 .subst k1;cases hr:(nP F T&&fV I&&decide (1<=L)&&decide (L<=I)&&keyOk k.data.toList&&fV N)
  .exact Co F T I L k N w hr
  .exact zX F T I L k N w hr
 by_cases k2:K=2
 .subst k2;cases hr:(nP F T&&fV I)
  .exact Cn F T I L k N w hr
  by_cases hL:0=L
  .subst hL;by_cases hk:k.size=0
   .obtain rfl:=eq_empty k hk;by_cases hN:0=N
    .subst hN;exact zW F T I w hr
    .exact D6 F T I N w hr hN
   .exact zU F T I k N w hr hk
  .exact zV F T I L k N w hr hL
 exact FV K F T I L k N w k0 k1 k2
theorem JV (m:Mg) (w:World):Calls prog 20 #[qg m] w (fF w (.bool (bY m))):=by
 have HM:=Hq (λw1=>XH m w1);generalize bY m=r at *;generalize wR m=v at *;obtain⟨K,F,T,I,L,k,N⟩:=m;go_in
 go_wp2_with fail;refine(HM _).mono ?_;rintro e w1 ⟨rfl,hb1⟩;go_wp2
 go_ret;exact⟨rfl,(au w _).trans (hb1.mono Aac)⟩
theorem yx (s:ByteArray) (i:Int) (hs:s.size<=maxLen) (w:World) (hH:Handle w):Calls prog 244 #[.string s,.int .i64 i] w (fF w (.tuple #[.int .i64 (tF s i),.int .i64 (iV s i)])):=by
 have h:=Pv s i w hs hH;rw [Fv] at h;exact h
theorem LY (s:ByteArray) (i:Int) (hs:s.size<=maxLen) (w:World) (hH:Handle w):Calls prog 183 #[.string s,.int .i64 i] w (fF w (.tuple #[.string (jJ s i),.int .i64 (iW s i)])):=by
 have h:=Pw s i w hs hH;rw [Dh] at h;exact h
theorem FC (w:World):Calls prog 246 #[.string ByteArray.empty] w (fF w (.tuple #[.agg (cK 0 0 0 0 0 ⟨#[]⟩ 0),.bool false])):=by
 go_in
 go_wp2_with fail;exact bodyPost_ret (v:= .tuple #[.agg (cK 0 0 0 0 0 ⟨#[]⟩ 0),.bool false]) (by simp[results,results246,go_sem]) rfl ⟨rfl,au w _⟩
theorem DY (s:ByteArray) (hs:s.size<=maxLen) (h0:0 < s.size) (w:World) (hH:Handle w):Calls prog 246 #[.string s] w (fF w (DV s)):=by
 have Zi:=Hq (λw1 h=>yx s (gW s 0) hs w1 h);have HG2:=Hq (λw1 h=>yx s (gW s 1) hs w1 h);have NC:=Hq (λw1 h=>yx s (gW s 2) hs w1 h);have HG4:=Hq (λw1 h=>yx s (gW s 3) hs w1 h);have HG5:=Hq (λw1 h=>LY s (gW s 4) hs w1 h);have HG6:=Hq (λw1 h=>yx s (iW s (gW s 4)) hs w1 h);have e1:iV s (gW s 0)=gW s 1:=rfl;have e2:iV s (gW s 1)=gW s 2:=rfl;have e3:iV s (gW s 2)=gW s 3:=rfl;have e4:iV s (gW s 3)=gW s 4:=rfl;have ez:gW s 0=1:=rfl;rw [e1] at Zi;rw [e2] at HG2;rw [e3] at NC;rw [e4] at HG4;have HP:=Hq (λw1=>JV (cand s) w1);have HO:=Hq (show jF s=(decide (vB s=s.size)&&bY (cand s)) by unfold jF;rw [decide_eq_true h0];rfl);open apl in exact awR
theorem FB (s:ByteArray) (hs:s.size<=maxLen) (w:World) (hH:Handle w):Calls prog 246 #[.string s] w (fF w (DV s)):=by
 by_cases h0:s.size=0
 .obtain rfl:=eq_empty s h0;rw [Eo (show jF ByteArray.empty=false by unfold jF;simp)];exact FC w
 .exact DY s hs Aaa w hH
abbrev opA (o:fP):Array Value:=(cu o.K o.no o.k o.n o.m.K o.m.F o.m.T o.m.I o.m.L o.m.k o.m.N)
structure Sg (w:World) (c g:Nat) (o:fP) (W:World):Prop where
 cur:qA W c
 keep:Keeps c w W
 clt:c < w.heap.size
 glt:w.heap.size < g
 res:W.heap[w.heap.size]?=some (.cells (cu 0 0 ⟨#[]⟩ 0 0 0 0 0 0 ⟨#[]⟩ 0) 34 (0,0))
 own:W.heap[g]?=some (.cells (opA o) 34 (0,0))
theorem Sg.draw {w W':World} (h:Sg w c g o W) (hc:qA W' c) (hk:Keeps c W W'):Sg w c g o W':=by
 have h1:=bH h.res;have h2:=bH h.own;have h3:=h.clt;have h4:=h.glt;exact⟨hc,h.keep.trans hk,h.clt,h.glt,by rw [hk.block _ h1 Aaa];exact h.res,by rw [hk.block _ h2 Aaa];exact h.own⟩
theorem Sg.new {w:World} (h:Sg w c g o W) (x:Obj):Sg w c g o (W.alloc x):=h.draw (jg h.cur x) (mD x)
theorem Sg.far {w W':World} (h:Sg w c g o W) (hb:Below g W W') (e:W'.heap[g]?=some (.cells (opA o') 34 (0,0))):Sg w c g o' W':=by
 have h3:=h.clt;have h4:=h.glt;have hk:=h.keep;exact⟨h.cur.below hb Aaa,⟨hb.os.trans hk.os,hb.tape.trans hk.tape,hb.output.trans hk.output,Nat.le_trans hk.size hb.size,λk k1 k2=>(hb.block k Aaa).trans (hk.block k k1 k2)⟩,h.clt,h.glt,(hb.block _ h4).trans h.res,e⟩
theorem ajZ {w:World} {cs:Array Value} (h:w.heap[c]?=some (.cells cs t (0,0))) (i:Nat) (v:Value):(w.setCell ⟨c,i,none⟩ v).heap[c]?=some (.cells (cs.setIfInBounds i v) t (0,0)):=by
 exact WG
theorem Sg.put {w:World} (h:Sg w c g o W) (i:Nat) (v:Value) (e:(opA o).setIfInBounds i v=opA o'):Sg w c g o' (W.setCell ⟨g,i,none⟩ v):=
 h.far ((Below.refl g W).setCell (p:=⟨g,i,none⟩) (Nat.le_refl g) v) (by rw [<-e];exact ajZ h.own i v)
def Ml:List ByteArray:=[⟨#[97]⟩,⟨#[98]⟩]
theorem Qj:∀x∈Ml,x.size<=20:=Aae
theorem ab5 (c:Nat) (w:World) (hc:qA w c):Calls prog 33 #[.pointer (some ⟨c,0,none⟩)] w λe w'=>∃o:fP,e= .returned (jX o)/\o.k.size<=20/\o.m.k.size<=20/\qA w' c/\Keeps c w w':=by
 have hcl:=hc.lt;have HC:=Hq hc;clear hc;go_in
 go_wp2_with fail;generalize hwa:w.alloc (.cells (cu 0 0 ⟨#[]⟩ 0 0 0 0 0 0 ⟨#[]⟩ 0) 34)=wa at *;have abF:wa.heap.size=w.heap.size+1:=by rw [<-hwa];simp
 have VY:=Hq (show qA wa c by rw [<-hwa];exact jg HC _);have HKA:=Hq (show Keeps c w wa by rw [<-hwa];exact mD _);have rT:=Hq (show wa.heap[w.heap.size]?=some (.cells (cu 0 0 ⟨#[]⟩ 0 0 0 0 0 0 ⟨#[]⟩ 0) 34 (0,0)) by rw [<-hwa];exact heap_alloc_new w _);clear hwa HC;have xL:=Hq (aev c (w.heap.size+1) 2 Ml _ (jg VY (.cells (Ml.map Value.string).toArray 9)) Aaa Aae Aae (λi hi=>by rw [<-abF];exact ab6 wa Ml _ i hi) Aaf);refine xL.mono ?_;clear xL;rintro e w1 ⟨key,rfl,hkey,hc1,hk1⟩;have hks:=Qj key hkey;have xE:=Hq hc1;have Jq:=Hq ((HKA.trans (mD _)).trans hk1);have HR1:=Hq (show w1.heap[w.heap.size]?=some (.cells (cu 0 0 ⟨#[]⟩ 0 0 0 0 0 0 ⟨#[]⟩ 0) 34 (0,0)) by rw [hk1.block _ Aaf Aaa,Below.heap_alloc _ _ _ Aaa];exact rT);clear hc1 hk1 VY HKA rT hkey;go_wp2_with fail;refine(gM c 9 _ xE Aaa Aaa).mono ?_;rintro e w2 ⟨y,rfl,hy0,hy1,hc2,hk2⟩;have oI:=Hq hc2;have qY:=Hq (Jq.trans hk2);have HR2:=Hq (show w2.heap[w.heap.size]?=some (.cells (cu 0 0 ⟨#[]⟩ 0 0 0 0 0 0 ⟨#[]⟩ 0) 34 (0,0)) by rw [hk2.block _ (bH (ah HR1)) Aaa];exact HR1);have hr2:=bH HR2;clear hc2 hk2 xE Jq HR1;go_upto_region 4 with fail;refine wp_at (λV0 hV=>?_)
 have HS:=Hq (show Sg w c w2.heap.size ⟨0,0,⟨#[]⟩,0,⟨0,0,0,0,0,⟨#[]⟩,0⟩⟩ V0 by
  rw [hV]
  refine⟨jg oI _,qY.trans (mD _),hcl,hr2,?_,heap_alloc_new w2 _⟩
  rw [Below.heap_alloc _ _ _ hr2]
  exact HR2)
 clear hV oI qY HR2 hr2 abF;have hn0:0<=1+y:=Aaa
 have hn1:1+y<=9:=Aaa
 generalize w2.heap.size=g at *;go_wp2_with fail;refine(gM c 10 _ HS.cur Aaa Aaa).mono ?_;rintro e wz ⟨z,rfl,hz0,hz1,hcx,hkx⟩;have qb:=Hq (HS.draw hcx hkx);clear hcx hkx HS;go_upto_block 0 with fail;go_cut [5] (λp wx=>p= .pointer (some ⟨g,0,none⟩)/\∃o:fP,Sg w c g o wx/\o.k.size<=20/\o.m.k.size<=20)
 case first=>
  have hzc:z=0\/z=1\/z=2\/z=3\/z=4\/z=5\/z=6\/z=7\/z=8\/z=9:=Aaa
  rcases hzc with rfl|rfl|rfl|rfl|rfl|rfl|rfl|rfl|rfl|rfl
  .clear hz0 hz1;open apZ in exact OC
  .exact axm
  .exact axm
  .open arE in exact afG
  .clear hz0 hz1;open apY in exact OC
  .clear hz0 hz1;open apX in exact OC
  .clear hz0 hz1;open apW in exact OC
  .clear hz0 hz1;go_wp2_with fail;refine(gM c 9 _ qb.cur Aaa Aaa).mono ?_;rintro e wp ⟨p,rfl,hp0,hp1,hcx,hkx⟩;have HS2:=Hq (qb.draw hcx hkx);clear hcx hkx qb;go_wp2_with fail;refine(jm c wp.heap.size 3 [0,0,2] _ (jg HS2.cur _) (by have:=HS2.cur.lt;omega) Aac Aac (λi hi=>kE wp [0,0,2] _ i hi) Aac).mono ?_;rintro e wf ⟨f,rfl,hin,hcx,hkx⟩;have JC:=Hq ((HS2.new _).draw hcx hkx);clear hcx hkx hin HS2;go_wp2_with fail;refine(gM c (1+p) _ JC.cur Aaa Aaa).mono ?_;rintro e wl ⟨l,rfl,hl0,hl1,hcx,hkx⟩;have oJ:=Hq (JC.draw hcx hkx);clear hcx hkx JC;obtain⟨⟨c0,c1,c2,c3,c4,c5,c6,c7,c8,c9,c10⟩,f0,f1,f2,f3,f4,f5,f6,f7,f8,f9,f10⟩:=aQ oJ.own;have hzg:=bH oJ.own;go_wp2_with fail;go_meet
   case rel=>exact⟨rfl,⟨6,0,⟨#[]⟩,0,⟨1,f,1,(1+p),(1+l),key,(5+(1+y))⟩⟩,oJ.far (o':=⟨6,0,⟨#[]⟩,0,⟨1,f,1,(1+p),(1+l),key,(5+(1+y))⟩⟩) (dw (Below.refl _ _) (Nat.le_refl _)) (gF oJ.own),Aan,Aan⟩
  .clear hz0 hz1;go_wp2_with fail;refine(jm c wz.heap.size 4 [2,3,2,0] _ (jg qb.cur _) (by have:=qb.cur.lt;omega) Aac Aac (λi hi=>kE wz [2,3,2,0] _ i hi) Aac).mono ?_;open anT in exact adL
  .clear hz0 hz1;go_wp2_with fail;refine(jm c wz.heap.size 3 [2,3,0] _ (jg qb.cur _) (by have:=qb.cur.lt;omega) Aac Aac (λi hi=>kE wz [2,3,0] _ i hi) Aac).mono ?_;rintro e wf ⟨f,rfl,hin,hcx,hkx⟩;have HS2:=Hq ((qb.new _).draw hcx hkx);clear hcx hkx hin qb;go_wp2_with fail;refine(gM c 4 _ HS2.cur Aaa Aaa).mono ?_;rintro e wp ⟨p,rfl,hp0,hp1,hcx,hkx⟩;have JC:=Hq (HS2.draw hcx hkx);clear hcx hkx HS2;obtain⟨⟨c0,c1,c2,c3,c4,c5,c6,c7,c8,c9,c10⟩,f0,f1,f2,f3,f4,f5,f6,f7,f8,f9,f10⟩:=aQ JC.own;have hzg:=bH JC.own;go_wp2_with fail;go_meet
   case rel=>exact⟨rfl,⟨6,0,⟨#[]⟩,0,⟨2,f,1,(1+p),0,⟨#[]⟩,0⟩⟩,JC.far (o':=⟨6,0,⟨#[]⟩,0,⟨2,f,1,(1+p),0,⟨#[]⟩,0⟩⟩) (dw (Below.refl _ _) (Nat.le_refl _)) (gF JC.own),Aan,Aan⟩
 case rest=>
 obtain⟨rfl,⟨K,no,k,n,⟨mK,mF,mT,mI,mL,mk,mN⟩⟩,hst,gs,gm⟩:=hcut;dsimp only at gs gm;clear qb hz0 hz1 hy0 hy1 hn0 hn1 hks;have HS:=Hq hst;clear hst;go_wp2_with fail;refine(gM c 30 _ HS.cur Aaa Aaa).mono ?_;rintro e wz2 ⟨z2,rfl,Xv,Xw,hcx,hkx⟩;have qb:=Hq (HS.draw hcx hkx);clear hcx hkx HS;go_upto_block 1 with fail;go_cut [5] (λp wx=>p= .pointer (some ⟨g,0,none⟩)/\∃o:fP,Sg w c g o wx/\o.k.size<=20/\o.m.k.size<=20)
 case first=>
  have hzc:z2=0\/z2=1\/z2=2\/z2=3\/4<=z2:=Aaa
  rcases hzc with rfl|rfl|rfl|rfl|h4
  .clear Xv Xw;go_wp2_with fail;refine(jm c wz2.heap.size 3 [-1,7,2] _ (jg qb.cur _) (by have:=qb.cur.lt;omega) Aac Aac (λi hi=>kE wz2 [-1,7,2] _ i hi) Aac).mono ?_;open anS in exact adL
  .clear Xv Xw;go_wp2_with fail;refine(jm c wz2.heap.size 2 [0,1000000001] _ (jg qb.cur _) (by have:=qb.cur.lt;omega) Aac Aac (λi hi=>kE wz2 [0,1000000001] _ i hi) Aac).mono ?_;open anR in exact adL
  .clear Xv Xw;open apV in exact OC
  .clear Xv Xw;go_wp2_with fail;refine(jm c wz2.heap.size 3 [0,1000000001,1000000000] _ (jg qb.cur _) (by have:=qb.cur.lt;omega) Aac Aac (λi hi=>kE wz2 [0,1000000001,1000000000] _ i hi) Aac).mono ?_;open anQ in exact adL
  .have q0:(z2 == 0)=false:=Aaf
   have q1:(z2 == 1)=false:=Aaf
   have q2:(z2 == 2)=false:=Aaf
   have q3:(z2 == 3)=false:=Aaf
   clear Xv Xw;go_wp2_with fail;go_meet
   case rel=>exact⟨rfl,⟨K,no,k,n,⟨mK,mF,mT,mI,mL,mk,mN⟩⟩,qb,gs,gm⟩
 case rest=>
 obtain⟨rfl,o,hst,gs',gm'⟩:=hcut;clear qb Xv Xw gs gm;obtain⟨K,no,k,n,⟨mK,mF,mT,mI,mL,mk,mN⟩⟩:=o;have HS:=Hq hst;clear hst;have hown:wc.heap[g]?=some (.cells (cu K no k n mK mF mT mI mL mk mN) 34 (0,0)):=HS.own;obtain⟨⟨q0,q1,q2,q3,q4,q5,q6,q7,q8,q9,q10⟩,zz⟩:=aQ hown;clear zz hown;dsimp only at gs' gm';have hzg:=bH HS.own;have hzr:=bH HS.res;have hgl:=HS.glt;obtain⟨⟨d0,d1,d2,d3,d4,d5,d6,d7,d8,d9,d10⟩,f0,f1,f2,f3,f4,f5,f6,f7,f8,f9,f10⟩:=aQ HS.res;go_wp2_with fail;refine iJ (λW' hW'=>?_);obtain⟨⟨r0,r1,r2,r3,r4,r5,r6,r7,r8,r9,XY⟩,_⟩:=aQ (show W'.heap[w.heap.size]?=some (.cells (opA ⟨K,no,k,n,⟨mK,mF,mT,mI,mL,mk,mN⟩⟩) 34 (0,0)) by rw [hW'];exact gF HS.res)
 have hkk:Keeps c w W':=by
  rw [hW'];have h:=HS.keep;have hb:=dw (b0:= .int .i64 K) (b1:= .int .i64 no) (b2:= .string k) (b3:= .int .i64 n) (b4:= .int .i64 mK) (b5:= .int .i64 mF) (b6:= .int .i64 mT) (b7:= .int .i64 mI) (b8:= .int .i64 mL) (b9:= .string mk) (b10:= .int .i64 mN) (Below.refl w.heap.size wc) (Nat.le_refl w.heap.size);exact⟨hb.os.trans h.os,hb.tape.trans h.tape,hb.output.trans h.output,Nat.le_trans h.size hb.size,λj j1 j2=>(hb.block j j1).trans (h.block j j1 j2)⟩
 have hcc:qA W' c:=by
  rw [hW'];exact HS.cur.below (dw (Below.refl w.heap.size wc) (Nat.le_refl w.heap.size)) hcl
 exact bodyPost_ret (v:=jX ⟨K,no,k,n,⟨mK,mF,mT,mI,mL,mk,mN⟩⟩) (by simp[results,results33,go_sem,r0,r1,r2,r3,r4,r5,r6,r7,r8,r9,XY]) rfl ⟨⟨K,no,k,n,⟨mK,mF,mT,mI,mL,mk,mN⟩⟩,rfl,gs',gm',hcc,hkk⟩
theorem ajQ {s:ByteArray} (hs:keyOk s.data.toList=true):s.size<=10:=by
 exact aay
end Go.Proofs.YtacgbldlonoaaaaGreatDoor
