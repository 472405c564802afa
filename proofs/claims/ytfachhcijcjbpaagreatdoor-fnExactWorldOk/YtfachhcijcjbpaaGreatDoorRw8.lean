/- Parts. -/
import Derived.Test.YtfachhcijcjbpaaGreatDoorRw7
namespace Go.Proofs.YtfachhcijcjbpaaGreatDoor
open Go.Proofs.Tryz
set_option maxHeartbeats 2000000
namespace Mth
structure Mg where
 K:Int
 F:Int
 T:Int
 I:Int
 L:Int
 k:ByteArray
 N:Int
abbrev bH (K F T I L:Int) (k:ByteArray) (N:Int):Array Value:=#[.int .i64 K,.int .i64 F,.int .i64 T,.int .i64 I,.int .i64 L,.string k,.int .i64 N]
abbrev nT (m:Mg):Value:= .agg #[.int .i64 m.K,.int .i64 m.F,.int .i64 m.T,.int .i64 m.I,.int .i64 m.L,.string m.k,.int .i64 m.N]
def uH (n:Int):Bool:=decide (0<=n/\n<=29)
def fC (n:Int):Bool:=decide (1<=n/\n<=1000000000)
def mG (f t:Int):Bool:=uH f&&uH t&&decide (f≠t)
def bJ (m:Mg):Bool:=
 mG m.F m.T&&
  (if m.K=0 then keyOk m.k.data.toList&&fC m.N&&decide (m.I=0)&&decide (m.L=0)
   else if m.K=1 then keyOk m.k.data.toList&&fC m.N&&fC m.I&&decide (1<=m.L/\m.L<=m.I)
   else if m.K=2 then fC m.I&&decide (m.k.size=0)&&decide (m.N=0)&&decide (m.L=0)
   else false)
end Mth
open Go.RowKit
open Mth
theorem wp_at {P:Program} {Q:Exit->Act->World->Prop} {c:Code} {a:Act} {W:World} (h:∀W',W'=W->Code.wp P c Q a W'):Code.wp P c Q a W:=h W rfl
theorem au (w:World) (o:Obj):Below w.heap.size w (w.alloc o):=(aEK _ _).alloc (aEx _) _
theorem KT {p:Prop} [Decidable p] (h:¬p):Ending.returned (.bool false)= .returned (.bool (decide p)):=by rw [aEw h]
theorem Xq {p q:Prop} [Decidable p] [Decidable q] (h:p↔q):Ending.returned (.bool (decide p))= .returned (.bool (decide q)):=by rw [decide_eq_decide.2 h]
theorem yO (x a b:Int) (r:Bool) (w:World) (h:decide (a<=x/\x<=b)=r):Calls Tryz.prog 33 #[.int .i64 x,.int .i64 a,.int .i64 b] w λe w'=>e= .returned (.bool r)/\w=w':=by
 subst h;by_cases h:a<=x/\x<=b
 .rw [aEy h];exact j6 x a b w h.1 h.2
 .rw [aEw h];exact lT x a b w Aaa
theorem nH (n:Int) (r:Bool) (w:World) (h:uH n=r):Calls Tryz.prog 90 #[.int .i64 n] w λe w'=>e= .returned (.bool r)/\w=w':=by
 go_in
 exact aiM
theorem dZ (n:Int) (r:Bool) (w:World) (h:fC n=r):Calls Tryz.prog 59 #[.int .i64 n] w λe w'=>e= .returned (.bool r)/\w=w':=by
 go_in
 exact aiM
theorem isNode (n:Int) (r:Bool) (w:World) (h:uH n=r):Calls Tryz.prog 192 #[.int .i64 n] w λe w'=>e= .returned (.bool r)/\w=w':=by
 subst h;by_cases h0:0<=n
 .go_in
  go_wp2
  go_ret;exact⟨Xq Aaa,rfl⟩
 .go_in
  go_wp2
  go_ret;exact⟨KT Aaa,rfl⟩
theorem aL (n:Int) (r:Bool) (w:World) (h:fC n=r):Calls Tryz.prog 179 #[.int .i64 n] w λe w'=>e= .returned (.bool r)/\w=w':=by
 subst h;by_cases h0:1<=n
 .go_in
  go_wp2
  go_ret;exact⟨Xq Aaa,rfl⟩
 .go_in
  go_wp2
  go_ret;exact⟨KT Aaa,rfl⟩
theorem gW (s:ByteArray) (b:Bool) (w:World) (h:keyOk s.data.toList=b):Calls Tryz.prog 195 #[.string s] w λe w'=>e= .returned (.bool b)/\w=w':=by
 rw [<-h];exact Ki s w
theorem nY (s:ByteArray) (b:Bool) (w:World) (hs:s.size<=maxLen) (h:keyOk s.data.toList=b):Calls Tryz.prog 62 #[.string s] w λe w'=>e= .returned (.bool b)/\w=w':=by
 rw [<-h];exact KY s w hs
namespace Mth
structure gD where
 K:Int
 no:Int
 k:ByteArray
 n:Int
 m:Mg
def lK (m:Mg):Bool:=decide (m.K=0/\m.F=0/\m.T=0/\m.I=0/\m.L=0/\m.k.toList=[]/\m.N=0)
def bC (o:gD):Bool:=
 if o.K=0\/o.K=3\/o.K=4 then keyOk o.k.data.toList&&fC o.n&&decide (o.no=0)&&lK o.m
 else if o.K=1 then keyOk o.k.data.toList&&fC o.n&&fC o.no&&lK o.m
 else if o.K=2 then decide (o.k.toList=[])&&decide (o.n=0)&&fC o.no&&lK o.m
 else if o.K=5 then decide (o.k.toList=[])&&decide (o.n=0)&&decide (o.no=0)&&lK o.m
 else if o.K=6 then decide (o.k.toList=[])&&decide (o.n=0)&&decide (o.no=0)&&bJ o.m
 else false
end Mth
abbrev bE (K no:Int) (k:ByteArray) (nn mK mF mT mI mL:Int) (mk:ByteArray) (mN:Int):Array Value:=#[.int .i64 K,.int .i64 no,.string k,.int .i64 nn,.int .i64 mK,.int .i64 mF,.int .i64 mT,.int .i64 mI,.int .i64 mL,.string mk,.int .i64 mN]
abbrev jF (o:gD):Value:= .agg #[.int .i64 o.K,.int .i64 o.no,.string o.k,.int .i64 o.n,.int .i64 o.m.K,.int .i64 o.m.F,.int .i64 o.m.T,.int .i64 o.m.I,.int .i64 o.m.L,.string o.m.k,.int .i64 o.m.N]
set_option maxRecDepth 100000
theorem cu {w:World} {g:Nat} {o:Obj} (h:w.heap[g]?=some o):g < w.heap.size:=by
 exact aeT
theorem aI {w w':World} {g:Nat} {o:Obj} (h:w.heap[g]?=some o) (hb:aG w w'):w'.heap[g]?=some o:=by
 rw [hb.block g (cu h)];exact h
theorem cells3 {w:World} {g:Nat} {a0 a1 a2:Value} {t:TypeId} (h:w.heap[g]?=some (.cells #[a0,a1,a2] t (0,0))):
 w.cell? ⟨g,0,none⟩=some a0/\w.cell? ⟨g,1,none⟩=some a1/\w.cell? ⟨g,2,none⟩=some a2:=by
 have hc:∀i,w.cell? ⟨g,i,none⟩=#[a0,a1,a2][i]?:=λi=>aEz w g i _ t (0,0) h
 exact⟨hc 0,hc 1,hc 2⟩
theorem Mc {w:World} {g:Nat} {a0 a1 a2 a3:Value} {t:TypeId} (h:w.heap[g]?=some (.cells #[a0,a1,a2,a3] t (0,0))):
 w.cell? ⟨g,0,none⟩=some a0/\w.cell? ⟨g,1,none⟩=some a1/\w.cell? ⟨g,2,none⟩=some a2/\w.cell? ⟨g,3,none⟩=some a3:=by
 have hc:∀i,w.cell? ⟨g,i,none⟩=#[a0,a1,a2,a3][i]?:=λi=>aEz w g i _ t (0,0) h
 exact⟨hc 0,hc 1,hc 2,hc 3⟩
theorem Md {w:World} {g:Nat} {a0 a1 a2 a3 a4 a5:Value} {t:TypeId} (h:w.heap[g]?=some (.cells #[a0,a1,a2,a3,a4,a5] t (0,0))):
 w.cell? ⟨g,0,none⟩=some a0/\w.cell? ⟨g,1,none⟩=some a1/\w.cell? ⟨g,2,none⟩=some a2/\w.cell? ⟨g,3,none⟩=some a3/\w.cell? ⟨g,4,none⟩=some a4/\w.cell? ⟨g,5,none⟩=some a5:=by
 have hc:∀i,w.cell? ⟨g,i,none⟩=#[a0,a1,a2,a3,a4,a5][i]?:=λi=>aEz w g i _ t (0,0) h
 exact⟨hc 0,hc 1,hc 2,hc 3,hc 4,hc 5⟩
theorem uf {w:World} {g:Nat} {a0 a1 a2 a3 a4 a5 a6:Value} {t:TypeId} (h:w.heap[g]?=some (.cells #[a0,a1,a2,a3,a4,a5,a6] t (0,0))):
 w.cell? ⟨g,0,none⟩=some a0/\w.cell? ⟨g,1,none⟩=some a1/\w.cell? ⟨g,2,none⟩=some a2/\w.cell? ⟨g,3,none⟩=some a3/\w.cell? ⟨g,4,none⟩=some a4/\w.cell? ⟨g,5,none⟩=some a5/\w.cell? ⟨g,6,none⟩=some a6:=by
 have hc:∀i,w.cell? ⟨g,i,none⟩=#[a0,a1,a2,a3,a4,a5,a6][i]?:=λi=>aEz w g i _ t (0,0) h
 exact⟨hc 0,hc 1,hc 2,hc 3,hc 4,hc 5,hc 6⟩
theorem wV (F T:Int) (r:Bool) (w:World) (h:mG F T=r):Calls Tryz.prog 349 #[.agg #[.int .i64 F,.int .i64 T]] w (dK w (.bool r)):=by
 subst h;cases h1:uH F
 case' false=>
  have HP:=Hq (show mG F T=false by simp[mG,h1]);have H1:=Hq (λw1=>isNode F false w1 h1);clear h1;exact aix
 have H1:=Hq (λw1=>isNode F true w1 h1);cases h2:uH T
 case' false=>
  have HP:=Hq (show mG F T=false by simp[mG,h2])
  have H2:=Hq (λw1=>isNode T false w1 h2)
  open au0 in exact ahj
 have H2:=Hq (λw1=>isNode T true w1 h2);by_cases hft:F=T
 case' pos=>
  have HP:=Hq (show mG F T=false by simp[mG,hft]);clear h1 h2;subst hft;exact aix
 have HP:=Hq (show mG F T=true by simp[mG,h1,h2,hft]);have he:(F != T)=true:=by simp[hft]
 open auZ in exact ahj
theorem Oh (F T:Int) (k:ByteArray) (N:Int) (r:Bool) (w:World) (h:(mG F T&&keyOk k.data.toList&&fC N)=r):Calls Tryz.prog 350 #[.agg #[.int .i64 F,.int .i64 T,.string k,.int .i64 N]] w (dK w (.bool r)):=by
 have HQ:=Hq h;clear h;cases hr:mG F T
 case' false=>
  have HP:=Hq (show(mG F T&&keyOk k.data.toList&&fC N)=false by simp[hr]);have HR:=Hq (λw1=>wV F T false w1 hr);clear hr;go_in
  go_wp2_with (first|(go_at_call 349;refine(HR _).mono ?_;rintro e w2 ⟨rfl,hb2⟩;have hA:=aI (aEu w _) hb2;have hB:=(au w _).trans (hb2.mono Aac);obtain⟨c0,c1,c2,c3⟩:=Mc hA;have hz:=cu hA;clear hA hb2))
  exact zK
 have HR:=Hq (λw1=>wV F T true w1 hr);cases hc0:keyOk k.data.toList
 case' false=>
  have HP:=Hq (show(mG F T&&keyOk k.data.toList&&fC N)=false by simp[hr,hc0]);have Oj:=Hq (λw1=>gW k false w1 hc0);clear hr hc0;go_in
  go_wp2_with (first|(go_at_call 349;refine(HR _).mono ?_;rintro e w2 ⟨rfl,hb2⟩;have hA:=aI (aEu w _) hb2;have hB:=(au w _).trans (hb2.mono Aac);obtain⟨c0,c1,c2,c3⟩:=Mc hA;have hz:=cu hA;clear hA hb2)|(go_at_call_of 195 k;refine(Oj _).mono ?_;rintro e w1 ⟨rfl,rfl⟩))
  exact zK
 have Oj:=Hq (λw1=>gW k true w1 hc0);cases hc1:fC N
 case' false=>
  have HP:=Hq (show(mG F T&&keyOk k.data.toList&&fC N)=false by simp[hr,hc0,hc1]);have Tf:=Hq (λw1=>aL N false w1 hc1);exact axu
 have Tf:=Hq (λw1=>aL N true w1 hc1);have HP:=Hq (show(mG F T&&keyOk k.data.toList&&fC N)=true by simp[hr,hc0,hc1]);exact axu
theorem ajp (F T I L:Int) (k:ByteArray) (N:Int) (r:Bool) (w:World) (h:(mG F T&&fC I&&decide (1<=L)&&decide (L<=I)&&keyOk k.data.toList&&fC N)=r):Calls Tryz.prog 351 #[.agg #[.int .i64 F,.int .i64 T,.int .i64 I,.int .i64 L,.string k,.int .i64 N]] w (dK w (.bool r)):=by
 have HQ:=Hq h;clear h;cases hr:mG F T
 case' false=>
  have HP:=Hq (show(mG F T&&fC I&&decide (1<=L)&&decide (L<=I)&&keyOk k.data.toList&&fC N)=false by simp[hr]);have HR:=Hq (λw1=>wV F T false w1 hr);clear hr;go_in
  go_wp2_with (first|(go_at_call 349;refine(HR _).mono ?_;rintro e w2 ⟨rfl,hb2⟩;have hA:=aI (aEu w _) hb2;have hB:=(au w _).trans (hb2.mono Aac);obtain⟨c0,c1,c2,c3,c4,c5⟩:=Md hA;have hz:=cu hA;clear hA hb2))
  exact zK
 have HR:=Hq (λw1=>wV F T true w1 hr);cases hc0:fC I
 case' false=>
  have HP:=Hq (show(mG F T&&fC I&&decide (1<=L)&&decide (L<=I)&&keyOk k.data.toList&&fC N)=false by simp[hr,hc0]);have Oj:=Hq (λw1=>aL I false w1 hc0);exact akj
 have Oj:=Hq (λw1=>aL I true w1 hc0);by_cases hd1:1<=L
 case' neg=>
  have HP:=Hq (show(mG F T&&fC I&&decide (1<=L)&&decide (L<=I)&&keyOk k.data.toList&&fC N)=false by simp[hr,hc0,hd1]);exact akj
 by_cases hd2:L<=I
 case' neg=>
  have HP:=Hq (show(mG F T&&fC I&&decide (1<=L)&&decide (L<=I)&&keyOk k.data.toList&&fC N)=false by simp[hr,hc0,hd1,hd2]);exact akj
 cases hc1:keyOk k.data.toList
 case' false=>
  have HP:=Hq (show(mG F T&&fC I&&decide (1<=L)&&decide (L<=I)&&keyOk k.data.toList&&fC N)=false by simp[hr,hc0,hd1,hd2,hc1]);have Tf:=Hq (λw1=>gW k false w1 hc1);clear hr hc0 hc1;go_in
  go_wp2_with (first|(go_at_call 349;refine(HR _).mono ?_;rintro e w2 ⟨rfl,hb2⟩;have hA:=aI (aEu w _) hb2;have hB:=(au w _).trans (hb2.mono Aac);obtain⟨c0,c1,c2,c3,c4,c5⟩:=Md hA;have hz:=cu hA;clear hA hb2)|(go_at_call_of 179 I;refine(Oj _).mono ?_;rintro e w1 ⟨rfl,rfl⟩)|(go_at_call_of 195 k;refine(Tf _).mono ?_;rintro e w1 ⟨rfl,rfl⟩))
  exact zK
 have Tf:=Hq (λw1=>gW k true w1 hc1);cases hc2:fC N
 case' false=>
  have HP:=Hq (show(mG F T&&fC I&&decide (1<=L)&&decide (L<=I)&&keyOk k.data.toList&&fC N)=false by simp[hr,hc0,hd1,hd2,hc1,hc2]);have Iq:=Hq (λw1=>aL N false w1 hc2);exact axp
 have Iq:=Hq (λw1=>aL N true w1 hc2);have HP:=Hq (show(mG F T&&fC I&&decide (1<=L)&&decide (L<=I)&&keyOk k.data.toList&&fC N)=true by simp[hr,hc0,hd1,hd2,hc1,hc2]);exact axp
theorem Po (F T I:Int) (r:Bool) (w:World) (h:(mG F T&&fC I)=r):Calls Tryz.prog 352 #[.agg #[.int .i64 F,.int .i64 T,.int .i64 I]] w (dK w (.bool r)):=by
 have HQ:=Hq h;clear h;cases hr:mG F T
 case' false=>
  have HP:=Hq (show(mG F T&&fC I)=false by simp[hr]);have HR:=Hq (λw1=>wV F T false w1 hr);clear hr;go_in
  go_wp2_with (first|(go_at_call 349;refine(HR _).mono ?_;rintro e w2 ⟨rfl,hb2⟩;have hA:=aI (aEu w _) hb2;have hB:=(au w _).trans (hb2.mono Aac);obtain⟨c0,c1,c2⟩:=cells3 hA;have hz:=cu hA;clear hA hb2))
  exact zK
 have HR:=Hq (λw1=>wV F T true w1 hr);cases hc0:fC I
 case' false=>
  have HP:=Hq (show(mG F T&&fC I)=false by simp[hr,hc0]);have Oj:=Hq (λw1=>aL I false w1 hc0);exact axx
 have Oj:=Hq (λw1=>aL I true w1 hc0);have HP:=Hq (show(mG F T&&fC I)=true by simp[hr,hc0]);exact axx
open Go.WideShapes
theorem ajv (m:Mg) (w:World):Calls Tryz.prog 107 #[nT m] w (dK w (nT m)):=by
 obtain⟨K,F,T,I,L,k,N⟩:=m;go_in
 go_wp2_with fail;refine aEE (v:= .agg (bH K F T I L k N)) (by simp[results,Tryz.results107,go_sem]) rfl ⟨rfl,?_⟩;exact abu
theorem aJ {w:World} {g:Nat} {a0 a1 a2 a3 a4 a5 a6 a7 a8 a9 Ow:Value} {t:TypeId} (h:w.heap[g]?=some (.cells #[a0,a1,a2,a3,a4,a5,a6,a7,a8,a9,Ow] t (0,0))):
 (w.cell? ⟨g,0,none⟩=some a0/\w.cell? ⟨g,1,none⟩=some a1/\w.cell? ⟨g,2,none⟩=some a2/\w.cell? ⟨g,3,none⟩=some a3/\w.cell? ⟨g,4,none⟩=some a4/\w.cell? ⟨g,5,none⟩=some a5/\w.cell? ⟨g,6,none⟩=some a6/\w.cell? ⟨g,7,none⟩=some a7/\w.cell? ⟨g,8,none⟩=some a8/\w.cell? ⟨g,9,none⟩=some a9/\w.cell? ⟨g,10,none⟩=some Ow)/\(w.frozen? ⟨g,0,none⟩=false/\w.frozen? ⟨g,1,none⟩=false/\w.frozen? ⟨g,2,none⟩=false/\w.frozen? ⟨g,3,none⟩=false/\w.frozen? ⟨g,4,none⟩=false/\w.frozen? ⟨g,5,none⟩=false/\w.frozen? ⟨g,6,none⟩=false/\w.frozen? ⟨g,7,none⟩=false/\w.frozen? ⟨g,8,none⟩=false/\w.frozen? ⟨g,9,none⟩=false/\w.frozen? ⟨g,10,none⟩=false):=by
 have hf:∀i,w.frozen? ⟨g,i,none⟩=false:=λi=>by unfold World.frozen?;rw [h];simp
 have hc:∀i,w.cell? ⟨g,i,none⟩=#[a0,a1,a2,a3,a4,a5,a6,a7,a8,a9,Ow][i]?:=λi=>aEz w g i _ t (0,0) h
 exact⟨⟨hc 0,hc 1,hc 2,hc 3,hc 4,hc 5,hc 6,hc 7,hc 8,hc 9,hc 10⟩,hf 0,hf 1,hf 2,hf 3,hf 4,hf 5,hf 6,hf 7,hf 8,hf 9,hf 10⟩
theorem lC {w:World} {g:Nat} {a0 a1 a2 a3 a4 a5 a6 a7 a8 a9 Ow b0 b1 b2 b3 b4 b5 b6 b7 b8 b9 b10:Value} {t:TypeId} (h:w.heap[g]?=some (.cells #[a0,a1,a2,a3,a4,a5,a6,a7,a8,a9,Ow] t (0,0))):(((((((((((w.setCell ⟨g,0,none⟩ b0).setCell ⟨g,1,none⟩ b1).setCell ⟨g,2,none⟩ b2).setCell ⟨g,3,none⟩ b3).setCell ⟨g,4,none⟩ b4).setCell ⟨g,5,none⟩ b5).setCell ⟨g,6,none⟩ b6).setCell ⟨g,7,none⟩ b7).setCell ⟨g,8,none⟩ b8).setCell ⟨g,9,none⟩ b9).setCell ⟨g,10,none⟩ b10).heap[g]?=some (.cells #[b0,b1,b2,b3,b4,b5,b6,b7,b8,b9,b10] t (0,0)):=
 GR.setW_blk [b0,b1,b2,b3,b4,b5,b6,b7,b8,b9,b10] (o:=0) (xs:=[a0,a1,a2,a3,a4,a5,a6,a7,a8,a9,Ow]) h
theorem iw {a w:World} {B g:Nat} {b0 b1 b2 b3 b4 b5 b6 b7 b8 b9 b10:Value} (h:Below B a w) (hg:B<=g):Below B a (((((((((((w.setCell ⟨g,0,none⟩ b0).setCell ⟨g,1,none⟩ b1).setCell ⟨g,2,none⟩ b2).setCell ⟨g,3,none⟩ b3).setCell ⟨g,4,none⟩ b4).setCell ⟨g,5,none⟩ b5).setCell ⟨g,6,none⟩ b6).setCell ⟨g,7,none⟩ b7).setCell ⟨g,8,none⟩ b8).setCell ⟨g,9,none⟩ b9).setCell ⟨g,10,none⟩ b10):=
 GR.setW_below hg [b0,b1,b2,b3,b4,b5,b6,b7,b8,b9,b10] (o:=0) h
theorem PN {w:World} {g:Nat} {a0 a1 a2 a3 a4 a5 a6 a7 a8 a9 Ow b4 b5 b6 b7 b8 b9 b10:Value} {t:TypeId} (h:w.heap[g]?=some (.cells #[a0,a1,a2,a3,a4,a5,a6,a7,a8,a9,Ow] t (0,0))):(((((((w.setCell ⟨g,4,none⟩ b4).setCell ⟨g,5,none⟩ b5).setCell ⟨g,6,none⟩ b6).setCell ⟨g,7,none⟩ b7).setCell ⟨g,8,none⟩ b8).setCell ⟨g,9,none⟩ b9).setCell ⟨g,10,none⟩ b10).heap[g]?=some (.cells #[a0,a1,a2,a3,b4,b5,b6,b7,b8,b9,b10] t (0,0)):=
 GR.setW_blk [b4,b5,b6,b7,b8,b9,b10] (o:=4) (xs:=[a0,a1,a2,a3,a4,a5,a6,a7,a8,a9,Ow]) h
theorem zU {a w:World} {B g:Nat} {b4 b5 b6 b7 b8 b9 b10:Value} (h:Below B a w) (hg:B<=g):Below B a (((((((w.setCell ⟨g,4,none⟩ b4).setCell ⟨g,5,none⟩ b5).setCell ⟨g,6,none⟩ b6).setCell ⟨g,7,none⟩ b7).setCell ⟨g,8,none⟩ b8).setCell ⟨g,9,none⟩ b9).setCell ⟨g,10,none⟩ b10):=
 GR.setW_below hg [b4,b5,b6,b7,b8,b9,b10] (o:=4) h
theorem zV {w:World} {g g':Nat} {b4 b5 b6 b7 b8 b9 b10:Value} (hne:g'≠g):(((((((w.setCell ⟨g,4,none⟩ b4).setCell ⟨g,5,none⟩ b5).setCell ⟨g,6,none⟩ b6).setCell ⟨g,7,none⟩ b7).setCell ⟨g,8,none⟩ b8).setCell ⟨g,9,none⟩ b9).setCell ⟨g,10,none⟩ b10).heap[g']?=w.heap[g']?:=
 GR.setW_other hne [b4,b5,b6,b7,b8,b9,b10] (o:=4)
theorem gY {P:Program} {fn:Func} {Q:Ending->World->Prop} {x:Exit} {act:Act} {W:World} (h:∀W',W'=W->bodyPost P fn Q x act W'):bodyPost P fn Q x act W:=h W rfl
theorem gU (w:World) (a b:Obj):((w.alloc a).alloc b).heap[w.heap.size]?=some a/\((w.alloc a).alloc b).heap[w.heap.size+1]?=some b/\Below w.heap.size w ((w.alloc a).alloc b):=by
 have e1:(w.alloc a).heap.size=w.heap.size+1:=Aac
 have h4:=aEu (w.alloc a) b;have h6:=aEI (w.alloc a) b w.heap.size Aaa;rw [e1] at h4;exact⟨h6.trans (aEu w a),h4,(au w a).alloc Aaa b⟩
theorem Pq (w:World) (a b c:Obj):(((w.alloc a).alloc b).alloc c).heap[w.heap.size]?=some a/\(((w.alloc a).alloc b).alloc c).heap[w.heap.size+1]?=some b/\(((w.alloc a).alloc b).alloc c).heap[w.heap.size+1+1]?=some c/\Below w.heap.size w (((w.alloc a).alloc b).alloc c):=by
 exact axn
theorem adL (m:Mg) (z:Int) (w:World) (h0:0<=z) (h1:z<=1048576) (h2:m.k.size<=maxLen):Calls Tryz.prog 88 #[nT m,.int .i64 z] w λe w'=>e= .returned (.int .i64 (if z - m.k.size < 0 then -1 else z - m.k.size))/\aG w w':=by
 obtain⟨K,F,T,I,L,k,N⟩:=m;dsimp only at h2;unfold maxLen at h2;by_cases hn:(z - k.size:Int) < 0
 all_goals
  go_in
  go_wp2_with fail
  go_ret
  exact⟨rfl,au w _⟩
theorem aC4 (o:gD) (z:Int) (w:World) (h0:0<=z) (h1:z<=1048576) (h2:o.k.size<=maxLen) (h3:o.m.k.size<=maxLen):Calls Tryz.prog 89 #[jF o,.int .i64 z] w λe w'=>∃r:Int,e= .returned (.int .i64 r)/\(r= -1\/0<=r/\r<=z/\o.k.size<=1048576/\o.m.k.size<=1048576)/\aG w w':=by
 obtain⟨K,no,k,n,m⟩:=o;dsimp only at h2 h3;by_cases hn:(z - k.size:Int) < 0
 .obtain⟨mK,mF,mT,mI,mL,mk,mN⟩:=m;unfold maxLen at h2 h3;go_in
  go_wp2_with fail;go_ret;exact⟨_,rfl,.inl rfl,au w _⟩
 .have HM:=Hq (λw1=>adL m (z - k.size) w1 Aaa Aaa h3);have hks:k.size<=1048576:=Aaa
  have hmz:m.k.size<=9223372036854775807:=by unfold maxLen at h3;omega
  obtain⟨mK,mF,mT,mI,mL,mk,mN⟩:=m;dsimp only at hmz HM;clear h2 h3;go_in
  go_wp2_with fail;refine(HM _).mono ?_;by_cases hn2:(z - k.size - mk.size:Int) < 0
  .rw [aER hn2];rintro e w1 ⟨rfl,hb1⟩;have HB:=Hq ((au w _).trans (hb1.mono Aac));clear hb1 HM;go_wp2_with fail;go_ret;exact⟨_,rfl,.inl rfl,HB⟩
  .rw [aEG hn2];rintro e w1 ⟨rfl,hb1⟩;have HB:=Hq ((au w _).trans (hb1.mono Aac));clear hb1 HM;go_wp2_with fail;go_ret;exact⟨_,rfl,.inr ⟨Aaa,Aaa,hks,Aaa⟩,HB⟩
theorem EX (w:World) (a b c:Obj):(((w.alloc a).alloc b).alloc c).heap[w.heap.size]?=some a/\(((w.alloc a).alloc b).alloc c).heap[w.heap.size+1]?=some b/\(((w.alloc a).alloc b).alloc c).heap[w.heap.size+1+1]?=some c/\Below w.heap.size w (((w.alloc a).alloc b).alloc c):=by
 exact axn
theorem aC5 (o:gD) (w:World):Calls Tryz.prog 108 #[jF o] w (dK w (jF o)):=by
 obtain⟨K,no,k,n,m⟩:=o;have HT:=Hq (λw1=>ajv m w1);obtain⟨mK,mF,mT,mI,mL,mk,mN⟩:=m;go_in
 go_wp2_with fail;refine(HT _).mono ?_;rintro e w1 ⟨rfl,hb1⟩;obtain⟨hP,hR,hO,hB⟩:=EX w (.cells (bE K no k n mK mF mT mI mL mk mN) 88) (.cells (bE 0 0 ⟨#[]⟩ 0 0 0 0 0 0 ⟨#[]⟩ 0) 106) (.cells (bE K no k n 0 0 0 0 0 ⟨#[]⟩ 0) 106);have HR:=Hq (aI hR hb1);have HO:=Hq (aI hO hb1);have HB:=Hq (hB.trans (hb1.mono hB.size));clear hP hR hO hB hb1 HT;have hz1:=cu HR;have hz2:=cu HO;obtain⟨⟨o0,o1,o2,o3,o4,o5,o6,o7,o8,o9,o10⟩,f0,f1,f2,f3,f4,f5,f6,f7,f8,f9,f10⟩:=aJ HO;go_upto_region 7 with fail;refine wp_at (λW hW=>?_);have HOW:Hid (W.heap[w.heap.size+1+1]?=some (.cells (bE K no k n mK mF mT mI mL mk mN) 106 (0,0))):=by rw [hW];exact PN HO
 have HRW:Hid (W.heap[w.heap.size+1]?=some (.cells (bE 0 0 ⟨#[]⟩ 0 0 0 0 0 0 ⟨#[]⟩ 0) 106 (0,0))):=by rw [hW];exact(zV Aaa).trans HR
 have gK:Hid (aG w W):=by rw [hW];exact zU HB Aaa
 clear hW HO HR HB hz1 hz2 o0 o1 o2 o3 o4 o5 o6 o7 o8 o9 o10 f0 f1 f2 f3 f4 f5 f6 f7 f8 f9 f10;have hz1:=cu HRW;have hz2:=cu HOW;obtain⟨⟨o0,o1,o2,o3,o4,o5,o6,o7,o8,o9,o10⟩,_⟩:=aJ HOW;obtain⟨⟨r0,r1,r2,r3,r4,r5,r6,r7,r8,r9,Za⟩,f0,f1,f2,f3,f4,f5,f6,f7,f8,f9,f10⟩:=aJ HRW;go_wp2_with fail;refine gY (λW' hW'=>?_);have hRR:W'.heap[w.heap.size+1]?=some (.cells (bE K no k n mK mF mT mI mL mk mN) 106 (0,0)):=by rw [hW'];exact lC HRW
 have hBB:aG w W':=by rw [hW'];exact iw gK Aaa
 obtain⟨⟨x0,x1,x2,x3,x4,x5,x6,x7,x8,x9,x10⟩,_⟩:=aJ hRR;exact aEE (v:= .agg (bE K no k n mK mF mT mI mL mk mN)) (by simp[results,Tryz.results108,go_sem,x0,x1,x2,x3,x4,x5,x6,x7,x8,x9,x10]) rfl ⟨rfl,hBB⟩
namespace Mth
structure jI where
 i:Int
 t:Int
 k:ByteArray
 n:Int
structure Sn where
 f:Int
 l:Int
 ids:List Int
structure Rq where
 no:Int
 k:ByteArray
 n:Int
 s:Int
structure Nd where
 id:Int
 par:Int
 kids:List Int
 next:Int
 pu:List Pu
 out:List jI
 seen:List Sn
 old:Int
 reqs:List Rq
instance:Inhabited jI:=⟨⟨0,0,ByteArray.empty,0⟩⟩
instance:Inhabited Sn:=⟨⟨0,0,[]⟩⟩
instance:Inhabited Rq:=⟨⟨0,ByteArray.empty,0,0⟩⟩
abbrev aW (x:Int):List Value:=[.int .i64 x]
abbrev aN (s:jI):List Value:=[.int .i64 s.i,.int .i64 s.t,.string s.k,.int .i64 s.n]
abbrev aM (r:Rq):List Value:=[.int .i64 r.no,.string r.k,.int .i64 r.n,.int .i64 r.s]
theorem aU (x:Int):(aW x).length=1:=rfl
theorem aX (x:jI):(aN x).length=4:=rfl
theorem bQ (x:Rq):(aM x).length=4:=rfl
def gL {α:Type} (p:α->Bool) (r:α->α->Bool):List α->Bool
 |[]=>true
 |[x]=>p x
 |x::y::l=>p x&&r x y&&gL p r (y::l)
section
variable {α:Type} (p:α->Bool) (r:α->α->Bool)
theorem nP (x:α) (l:List α):gL p r (x::l)=(p x&&(match l.head? with|none=>true|some y=>r x y)&&gL p r l):=by
 cases l with
 |nil=>simp[gL]
 |cons y l=>simp[gL]
theorem PG (l:List α) (x:α):gL p r (l++[x])=(gL p r l&&(p x&&(match l.getLast? with|none=>true|some y=>r y x))):=by
 induction l with
 |nil=>simp[gL]
 |cons y l ih=>
  rw [List.cons_append,nP,ih,nP];cases l with
  |nil=>simp[gL,Bool.and_comm,Bool.and_left_comm]
  |cons z l=>simp[Bool.and_assoc]
theorem TY (l m:List α):gL p r (l++m)=true->gL p r l=true:=by
 induction l with
 |nil=>simp[gL]
 |cons y l ih=>
  intro h;rw [List.cons_append,nP] at h;rw [nP];simp only[aED] at h ⊢;refine⟨⟨h.1.1,?_⟩,ih h.2⟩;cases l with
  |nil=>simp
  |cons z l=>simpa using h.1.2
theorem rV (l:List α) (h:0 < l.length):gL p r (l.take 1)=p l[0]:=by
 match l,h with
 |x::l,_=>simp[gL]
theorem vR (l:List α) (k:Nat) (h:k+1 < l.length):gL p r (l.take (k+2))=(gL p r (l.take (k+1))&&(p l[k+1]&&r l[k] l[k+1])):=by
 rw [aEF h,PG]
 have e:(l.take (k+1)).getLast?=some l[k]:=by
  rw [aEF Aaa,List.getLast?_append];simp
 rw [e]
theorem oV (l:List α) (k:Nat) (h:gL p r (l.take k)=false):gL p r l=false:=by
 cases hc:gL p r l with
 |false=>rfl
 |true=>
  rw [<-aFm k l] at hc;rw [TY p r _ _ hc] at h;cases h
end
def jZ (id par x:Int):Bool:=uH x&&decide (x≠id)&&decide (x≠par)
def iF (x y:Int):Bool:=decide (x < y)
def dX (n:Nd):Bool:=uH n.id&&decide (-1<=n.par/\n.par<=29)&&decide (n.par≠n.id)&&decide (n.kids.length<=30)&&gL (jZ n.id n.par) iF n.kids
def hasB (l:List Int) (x:Int):Bool:=l.any λy=>decide (y=x)
def dU (n:Nd) (x:Int):Bool:=(decide (0<=x)&&decide (x=n.par))||hasB n.kids x
def DW (low x:Int):Bool:=decide (low<=x/\x<=1000000000)
def vK (s:Sn):Bool:=fC s.l&&decide (s.ids.length<=40)&&gL (DW s.l) iF s.ids
def nZ (n:Nd):Bool:=decide ((n.seen.length:Int)=n.kids.length+(if 0<=n.par then 1 else 0))&&gL (λs=>dU n s.f&&vK s) (λs t=>iF s.f t.f) n.seen
def wm (n:Nd) (o:jI):Bool:=decide (1<=o.i/\o.i<=n.next - 1)&&dU n o.t&&keyOk o.k.data.toList&&fC o.n
def sV (n:Nd) (q:Rq):Bool:=decide (n.old+1<=q.no/\q.no<=1000000000)&&keyOk q.k.data.toList&&fC q.n&&decide (0<=q.s/\q.s<=2)
def sD (n:Nd):Bool:=decide (n.out.length<=40)&&gL (wm n) (λs t=>iF s.i t.i) n.out
def gQ (n:Nd):Bool:=qM n.old&&decide (n.reqs.length<=30)&&gL (sV n) (λs t=>iF s.no t.no) n.reqs
def dQ (n:Nd):Bool:=dX n&&iZ n.pu&&nZ n&&fC n.next&&sD n&&gQ n
end Mth
namespace Mth
def upB (l:List Int) (i:Nat):Bool:=if i=0 then l[i]?.getD 0 == -1 else decide (0<=l[i]?.getD 0/\l[i]?.getD 0 < i)
def vH (l:List Int) (k:Nat):Bool:=(List.range k).all (upB l)
def jG (l:List Int):Bool:=decide (1<=l.length)&&decide (l.length<=30)&&vH l l.length
theorem Lf (l:List Int):vH l 0=true:=rfl
theorem xq (l:List Int) (k:Nat):vH l (k+1)=(vH l k&&upB l k):=by simp[vH,aGm]
theorem Hl (l:List Int) (h:0 < l.length):upB l 0=decide (l[0]= -1):=by
 unfold upB;rw [aER rfl,aEB h,Option.getD_some];by_cases h:l[0]= -1<;>simp[h]
theorem Og (l:List Int) (i:Nat) (h0:0 < i) (h:i < l.length):upB l i=decide (0<=l[i]/\l[i] < (i:Int)):=by
 unfold upB;rw [aEG Aaa,aEB h,Option.getD_some]
theorem adV (l:List Int) (k n:Nat) (hk:k < n) (h:upB l k=false):vH l n=false:=by
 cases hc:vH l n with
 |false=>rfl
 |true=>
  unfold vH at hc;rw [aF0] at hc;rw [hc k Abt] at h;cases h
theorem Xz (l:List Int) (k n:Nat) (hk:k < n) (h:vH l n=true):upB l k=true:=by
 unfold vH at h;rw [aF0] at h;exact h k Abt
structure JY (l:List Int):Prop where
 pos:0 < l.length
 le:l.length<=30
 root:l[0]?=some (-1)
 up:∀i (h:i < l.length),0 < i->0<=l[i]/\l[i] < (i:Int)
theorem JY.of {l:List Int} (h:jG l=true):JY l:=by
 unfold jG at h;simp only[aED,aES] at h;have h0:0 < l.length:=Aaa
 refine⟨h0,h.1.2,?_,λi hi hp=>?_⟩
 .have:=Xz l 0 _ h0 h.2;rw [Hl l h0,aES] at this;rw [aEB h0,this]
 .have:=Xz l i _ hi h.2;rw [Og l i hp hi,aES] at this;exact this
theorem Le (l:List Int) (h:l.length=0\/30 < l.length):jG l=false:=by
 unfold jG;rcases h with h|h
 .rw [aEw (show¬1<=l.length by omega)];rfl
 .rw [aEw (show¬l.length<=30 by omega)];simp
theorem tN (l:List Int) (k:Nat) (hk:k < l.length) (h:upB l k=false):jG l=false:=by
 unfold jG;rw [adV l k _ hk h];simp
theorem Vt (l:List Int) (h0:1<=l.length) (h1:l.length<=30) (h:vH l l.length=true):jG l=true:=by
 unfold jG;rw [h,aEy h0,aEy h1];rfl
theorem ZT (l:List Int) (h:vH l l.length=true):jG l=decide (1<=(l.length:Int)/\(l.length:Int)<=30):=by
 unfold jG;rw [h,Bool.and_true];by_cases h1:1<=l.length<;>by_cases h2:l.length<=30<;>simp[h1,h2]<;>omega
end Mth
namespace Mth
theorem JY.at_zero {l:List Int} (h:JY l):l[0]'h.pos= -1:=by
 have:=h.root;rw [aEB h.pos] at this;exact aFe this
end Mth
namespace Mth
def yg {α:Type} (key:α->Int) (y0:Int) (l:List α):Int:=(l.getLast?.map key).getD y0
theorem uF {α:Type} (key:α->Int) (y0:Int) (l:List α) (k:Nat) (h:k < l.length):yg key y0 (l.take (k+1))=key l[k]:=by
 unfold yg;rw [aEF h,List.getLast?_append];simp
theorem zO {α:Type} (p:α->Bool) (key:α->Int) (y0:Int) (hp:∀x,p x=true->y0 < key x) (l:List α) (k:Nat) (h:k < l.length):
 gL p (λs t=>iF (key s) (key t)) (l.take (k+1))=(gL p (λs t=>iF (key s) (key t)) (l.take k)&&(p l[k]&&decide (yg key y0 (l.take k) < key l[k]))):=by
 grind [yg,iF,PG,List.take_succ_eq_append_getElem]
theorem zP {α:Type} {p:α->Bool} {r:α->α->Bool} {l:List α} (h:gL p r l=true):∀x∈l,p x=true:=by
 induction l with
 |nil=>intro x hx;simp at hx
 |cons y l ih=>
  rw [nP] at h;simp only[aED] at h;intro x hx;rcases aET.1 hx with rfl|hx
  .exact h.1.1
  .exact ih h.2 x hx
theorem BJ {α:Type} {p:α->Bool} {r:α->α->Bool} {key:α->Int} {y0:Int} {l:List α} (hp:∀x,p x=true->y0 < key x) (h:gL p r l=true):y0<=yg key y0 l:=by
 unfold yg;cases hg:l.getLast? with
 |none=>simp
 |some y=>
  have:=hp y (zP h y (List.mem_of_getLast? hg));simp;omega
theorem uh {α:Type} {p:α->Bool} {r:α->α->Bool} (ht:∀a b c,r a b=true->r b c=true->r a c=true) {l:List α}:gL p r l=true↔(∀x∈l,p x=true)/\l.Pairwise (λa b=>r a b=true):=by
 induction l with
 |nil=>simp[gL]
 |cons x l ih=>
  rw [nP];simp only[aED,ih,aFu,aET,forall_eq_or_imp];constructor
  .rintro⟨⟨h1,h2⟩,h3,h4⟩;refine⟨⟨h1,h3⟩,?_,h4⟩;cases l with
   |nil=>intro a ha;simp at ha
   |cons y l=>
    simp only[List.head?_cons] at h2;intro a ha;rcases aET.1 ha with rfl|ha
    .exact h2
    .exact ht x y a h2 ((aFu.1 h4).1 a ha)
  .rintro⟨⟨h1,h3⟩,h2,h4⟩;refine⟨⟨h1,?_⟩,h3,h4⟩;cases l with
   |nil=>simp
   |cons y l=>exact h2 y Aac
theorem aeY {α:Type} {p q:α->Bool} {r:α->α->Bool} {l:List α}:gL (λx=>p x&&q x) r l=(gL p r l&&l.all q):=by
 induction l with
 |nil=>simp[gL]
 |cons x l ih=>
  rw [nP,ih,nP,List.all_cons];generalize p x=a;generalize q x=b;generalize gL p r l=d;generalize l.all q=e;cases a<;>cases b<;>cases d<;>cases e<;>simp
theorem akw:∀(B A:List Int),A.Pairwise (· < ·)->B.Pairwise (· < ·)->(∀x∈A,x∈B)->A.length<=B.length:=by
 intro B;induction B with
 |nil=>
  intro A _ _ hs;cases A with
  |nil=>simp
  |cons a A=>exact absurd (hs a Aac) Aac
 |cons b B ih=>
  intro A hA hB hs;cases A with
  |nil=>simp
  |cons a A=>
   exact ahL
theorem akv:∀(B A:List Int),A.Pairwise (· < ·)->B.Pairwise (· < ·)->(∀x∈A,x∈B)->B.length<=A.length->A=B:=by
 intro B;induction B with
 |nil=>
  intro A _ _ hs _;cases A with
  |nil=>rfl
  |cons a A=>exact absurd (hs a Aac) Aac
 |cons b B ih=>
  intro A hA hB hs hl;cases A with
  |nil=>simp at hl
  |cons a A=>
   exact ahL
def qQ (n:Nd):List Int:=n.kids++(if n.par= -1 then[] else[n.par])
def ZE (l:List Int):List Int:=l.mergeSort λx y=>decide (x<=y)
theorem qB (l:List Int):(ZE l).length=l.length:=List.length_mergeSort l
theorem NY (l:List Int) (x:Int):x∈ZE l↔x∈l:=(List.mergeSort_perm l _).mem_iff
theorem afW {l:List Int} (h:l.Nodup):(ZE l).Pairwise (· < ·):=by
 have h1:(ZE l).Pairwise (λx y=>decide (x<=y)=true):=List.pairwise_mergeSort (le:=λx y:Int=>decide (x<=y)) (λa b c h1 h2=>by simp at *;omega) (λa b=>Aae) l;have h2:(ZE l).Nodup:=(List.mergeSort_perm l _).symm.nodup h;exact(h1.and h2).imp (λ{a b} h=>by have:=aEQ h.1;have:=h.2;omega)
theorem zY (l:List Int) (x:Int):hasB l x=true↔x∈l:=by
 grind [hasB]
theorem mY (a b c:Int) (h1:iF a b=true) (h2:iF b c=true):iF a c=true:=by
 unfold iF at *;simp at *;omega
theorem qj {n:Nd} (h:dX n=true):(∀x∈n.kids,jZ n.id n.par x=true)/\n.kids.Pairwise (· < ·)/\ -1<=n.par:=by
 grind [iF,dX,uh,mY]
theorem UN {n:Nd} (h:dX n=true):(qQ n).Nodup:=by
 obtain⟨h1,h2,_⟩:=qj h;have h3:n.kids.Nodup:=h2.imp (λ{a b} h=>Aaa);grind [jZ,qQ]
theorem F8 {n:Nd} (h:dX n=true) (x:Int):dU n x=true↔x∈qQ n:=by
 grind [qQ,dU,zY,qj]
theorem vZ {n:Nd} (h:dX n=true):((qQ n).length:Int)=n.kids.length+(if 0<=n.par then 1 else 0):=by
 grind [qQ,qj]
theorem wZ {n:Nd} (hp:dX n=true):nZ n=(decide (n.seen.map (·.f)=ZE (qQ n))&&n.seen.all vK):=by
 have hnd:=UN hp;have hsr:=afW hnd;unfold nZ;rw [aeY,<-vZ hp,<-Bool.and_assoc];congr 1
 rw [aFI,aED,aE3,aE3,uh (λa b c h1 h2=>mY a.f b.f c.f h1 h2)];constructor
 .rintro⟨h1,h2,h3⟩;refine akv _ _ ?_ hsr ?_ ?_
  .rw [List.pairwise_map];exact h3.imp (λ{a b} h=>aEQ h)
  .grind [F8,NY]
  .rw [qB,aFo];omega
 .intro h;refine⟨?_,?_,?_⟩
  .grind [qB]
  .intro s hs;rw [F8 hp,<-NY,<-h];exact aFS.2 ⟨s,hs,rfl⟩
  .rw [<-h,List.pairwise_map] at hsr;exact hsr.imp (λ{a b} h=>aEy h)
end Mth
theorem dY {w:World} {g:Nat} {a0 a1 a2 a3 a4 a5 a6:Value} {t:TypeId} (h:w.heap[g]?=some (.cells #[a0,a1,a2,a3,a4,a5,a6] t (0,0))):
 (w.cell? ⟨g,0,none⟩=some a0/\w.cell? ⟨g,1,none⟩=some a1/\w.cell? ⟨g,2,none⟩=some a2/\w.cell? ⟨g,3,none⟩=some a3/\w.cell? ⟨g,4,none⟩=some a4/\w.cell? ⟨g,5,none⟩=some a5/\w.cell? ⟨g,6,none⟩=some a6)/\
  (w.frozen? ⟨g,0,none⟩=false/\w.frozen? ⟨g,1,none⟩=false/\w.frozen? ⟨g,2,none⟩=false/\w.frozen? ⟨g,3,none⟩=false/\w.frozen? ⟨g,4,none⟩=false/\w.frozen? ⟨g,5,none⟩=false/\w.frozen? ⟨g,6,none⟩=false):=by
 have hf:∀i,w.frozen? ⟨g,i,none⟩=false:=λi=>by unfold World.frozen?;rw [h];simp
 exact⟨uf h,hf 0,hf 1,hf 2,hf 3,hf 4,hf 5,hf 6⟩
theorem blk_set {w:World} {c:Nat} {cs:Array Value} {t:TypeId} (h:w.heap[c]?=some (.cells cs t (0,0))) (i:Nat) (v:Value):(w.setCell ⟨c,i,none⟩ v).heap[c]?=some (.cells (cs.setIfInBounds i v) t (0,0)):=by
 exact Wx
theorem one_other {w:World} {g g' i:Nat} {v:Value} {o:Option Obj} (h:w.heap[g']?=o) (hne:g'≠g):(w.setCell ⟨g,i,none⟩ v).heap[g']?=o:=by rw [aEU _ _ _ _ hne,h]
theorem tH {w:World} {g:Nat} {a0 a1 a2 a3 a4 a5 a6 b0 b1 b2 b3 b4 b5 b6:Value} {t:TypeId} (h:w.heap[g]?=some (.cells #[a0,a1,a2,a3,a4,a5,a6] t (0,0))):
 (((((((w.setCell ⟨g,0,none⟩ b0).setCell ⟨g,1,none⟩ b1).setCell ⟨g,2,none⟩ b2).setCell ⟨g,3,none⟩ b3).setCell ⟨g,4,none⟩ b4).setCell ⟨g,5,none⟩ b5).setCell ⟨g,6,none⟩ b6).heap[g]?=some (.cells #[b0,b1,b2,b3,b4,b5,b6] t (0,0)):=by
 exact(blk_set (blk_set (blk_set (blk_set (blk_set (blk_set (blk_set h 0 b0) 1 b1) 2 b2) 3 b3) 4 b4) 5 b5) 6 b6).trans Aab
theorem rA {a w:World} {B g:Nat} {b0 b1 b2 b3 b4 b5 b6:Value} (h:Below B a w) (hg:B<=g):
 Below B a (((((((w.setCell ⟨g,0,none⟩ b0).setCell ⟨g,1,none⟩ b1).setCell ⟨g,2,none⟩ b2).setCell ⟨g,3,none⟩ b3).setCell ⟨g,4,none⟩ b4).setCell ⟨g,5,none⟩ b5).setCell ⟨g,6,none⟩ b6):=
 ((((((h.setCell (p:=⟨g,0,none⟩) hg b0).setCell (p:=⟨g,1,none⟩) hg b1).setCell (p:=⟨g,2,none⟩) hg b2).setCell (p:=⟨g,3,none⟩) hg b3).setCell (p:=⟨g,4,none⟩) hg b4).setCell (p:=⟨g,5,none⟩) hg b5).setCell (p:=⟨g,6,none⟩) hg b6
theorem bodyPost_at {P:Program} {fn:Func} {Q:Ending->World->Prop} {x:Exit} {act:Act} {W:World} (h:∀W',W'=W->bodyPost P fn Q x act W'):bodyPost P fn Q x act W:=h W rfl
def kb (K:Int):ByteArray:=⟨[UInt8.ofNat K.toNat].toArray⟩
def AJ (m:Mg):ByteArray:=kb m.K++lW m.F++lW m.T++lW m.I++lW m.L++oh m.k++lW m.N
def jy (m:Mg):ByteArray:=if bJ m=true then AJ m else ByteArray.empty
theorem ze {m:Mg} (h:bJ m=true):jy m=AJ m:=by unfold jy;rw [aER h]
theorem Cq {m:Mg} (h:bJ m=false):jy m=ByteArray.empty:=by unfold jy;rw [aEG (by rw [h];simp)]
theorem afz {m:Mg} (h:bJ m=true):0<=m.K/\m.K<=2:=by
 unfold bJ at h;simp only[aED] at h;obtain⟨_,h⟩:=h;exact ai0
theorem Xf (K:Int):(kb K).size=1:=rfl
theorem Yd (w:World) (g:Nat) (K:Int) (h:0<=K/\K<=2) (hc:w.cell? ⟨g,0,none⟩=some (.int .u8 K)):(convert 178 9 (.slice (some ⟨g,0,none⟩) 1 1)).run Tryz.prog w= .ok (.string (kb K)) w:=by
 exact axH
def AR (o:gD):ByteArray:=kb o.K++lW o.no++oh o.k++lW o.n++oh (jy o.m)
def wB (o:gD):ByteArray:=if bC o=true then AR o else ByteArray.empty
theorem Cr {o:gD} (h:bC o=true):wB o=AR o:=by unfold wB;rw [aER h]
theorem QY {o:gD} (h:bC o=false):wB o=ByteArray.empty:=by unfold wB;rw [aEG (by rw [h];simp)]
theorem YW {o:gD} (h:bC o=true):0<=o.K/\o.K<=6:=by
 unfold bC at h;split at h
 .omega
 .split at h
  .omega
  .exact ai0
theorem Ub (w:World) (g:Nat) (K:Int) (h:0<=K/\K<=6) (hc:w.cell? ⟨g,0,none⟩=some (.int .u8 K)):(convert 178 9 (.slice (some ⟨g,0,none⟩) 1 1)).run Tryz.prog w= .ok (.string (kb K)) w:=by
 exact axH
theorem VK (K:Int) (h0:0<=K) (h6:K<=6):IntKind.u8.wrap K=K:=by
 have h3:K=0\/K=1\/K=2\/K=3\/K=4\/K=5\/K=6:=Aaa
 rcases h3 with rfl|rfl|rfl|rfl|rfl|rfl|rfl<;>rfl
theorem WU {w:World} {g:Nat} {v0 v1 v2 v3 v4 v5 v6 v7 v8 v9 v10:Value} {t:TypeId} (h:w.heap[g]?=some (.cells #[v0,v1,v2,v3,v4,v5,v6,v7,v8,v9,v10] t (0,0))):
 w.cell? ⟨g,0,none⟩=some v0/\w.cell? ⟨g,1,none⟩=some v1/\w.cell? ⟨g,2,none⟩=some v2/\w.cell? ⟨g,3,none⟩=some v3/\w.cell? ⟨g,4,none⟩=some v4/\w.cell? ⟨g,5,none⟩=some v5/\w.cell? ⟨g,6,none⟩=some v6/\w.cell? ⟨g,7,none⟩=some v7/\w.cell? ⟨g,8,none⟩=some v8/\w.cell? ⟨g,9,none⟩=some v9/\w.cell? ⟨g,10,none⟩=some v10:=by
 exact ah5
def kE (s:ByteArray):Nat:=65536*(sums s.data.toList).2+(sums s.data.toList).1
theorem N8 (s:ByteArray):kE s < 4294967296:=by
 have:=sums_lt s.data.toList;unfold kE;omega
def four (n:Nat):List UInt8:=[UInt8.ofNat (n / 16777216),UInt8.ofNat (n / 65536 % 256),UInt8.ofNat (n / 256 % 256),UInt8.ofNat (n % 256)]
def lZ (n:Nat):ByteArray:=⟨(four n).toArray⟩
theorem J4 (w:World) (g n cap:Nat) (h:n < 4294967296) (c0:w.cell? ⟨g,0,none⟩=some (.int .u8 ((n:Int) / 16777216))) (c1:w.cell? ⟨g,1,none⟩=some (.int .u8 ((n:Int) / 65536 % 256)))
 (c2:w.cell? ⟨g,2,none⟩=some (.int .u8 ((n:Int) / 256 % 256))) (c3:w.cell? ⟨g,3,none⟩=some (.int .u8 ((n:Int) % 256))):
 (convert 178 9 (.slice (some ⟨g,0,none⟩) 4 cap)).run Tryz.prog w= .ok (.string (lZ n)) w:=by
 refine aGi (P:=Tryz.prog) w 178 9 5 ⟨g,0,none⟩ cap (four n) Tryz.underlying178 Tryz.underlying5 Tryz.underlying9 ?_;intro j hj;have hj4:j < 4:=hj;have hcase:j=0\/j=1\/j=2\/j=3:=Aaa
 rcases hcase with rfl|rfl|rfl|rfl
 .show w.cell? ⟨g,0,none⟩=_
  rw [c0];simp only[four,aF5];rw [toNat_byte _ Aaa];rfl
 .show w.cell? ⟨g,1,none⟩=_
  rw [c1];simp only[four,List.getElem_cons_succ,aF5];rw [toNat_byte _ Aaa];rfl
 .show w.cell? ⟨g,2,none⟩=_
  rw [c2];simp only[four,List.getElem_cons_succ,aF5];rw [toNat_byte _ Aaa];rfl
 .show w.cell? ⟨g,3,none⟩=_
  rw [c3];simp only[four,List.getElem_cons_succ,aF5];rw [toNat_byte _ Aaa];rfl
theorem afB (n:Nat) (h:n < 4294967296) (w:World):Calls Tryz.prog 65 #[.int .u32 n] w (dK w (.string (lZ n))):=by
 have hcv:=J4 (w.alloc (.cells #[.int .u8 ((n:Int) / 16777216),.int .u8 ((n:Int) / 65536 % 256),.int .u8 ((n:Int) / 256 % 256),.int .u8 ((n:Int) % 256)] 5)) w.heap.size n 4 h Aac Aac Aac Aac;go_in
 go_wp2_with fail;go_ret;exact⟨rfl,au w _⟩
theorem adJ (s:ByteArray) (hs:s.size<=maxLen) (w:World):Calls Tryz.prog 216 #[.string s] w λe w'=>∃g,e= .returned (.slice (some ⟨g,0,none⟩) 4 4)/\w.heap.size<=g/\w'.heap[g]?=some (.cells #[.int .u8 ((kE s:Int) / 16777216),.int .u8 ((kE s:Int) / 65536 % 256),.int .u8 ((kE s:Int) / 256 % 256),.int .u8 ((kE s:Int) % 256)] 5 (0,0))/\aG w w':=by
 have hn:=N8 s;have HC:=Hq (λw1=>Mx s w1 hs);have e:(65536*(sums s.data.toList).2+(sums s.data.toList).1:Int)=(kE s:Int):=by unfold kE;omega
 rw [e] at HC;clear e hs;generalize kE s=n at *;go_in
 go_wp2_with fail;refine(HC _).mono ?_;rintro e w1 ⟨rfl,rfl⟩;go_wp2_with fail;go_ret;exact⟨w.heap.size,rfl,aEx _,aEu w _,au w _⟩
end Go.Proofs.YtfachhcijcjbpaaGreatDoor
