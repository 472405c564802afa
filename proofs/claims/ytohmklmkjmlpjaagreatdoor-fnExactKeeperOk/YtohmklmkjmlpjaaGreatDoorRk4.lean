/- Parts. -/
import Derived.Test.YtohmklmkjmlpjaaGreatDoorRk2
import Derived.Test.YtohmklmkjmlpjaaGreatDoorRk3
namespace Go.Proofs.YtohmklmkjmlpjaaGreatDoor
open Go.Proofs.Tryz
set_option maxHeartbeats 2000000
open Mth
variable (s:ByteArray) {W w:World} {e:TypeId} {v:Value} {P:Program} {p:Prop} {base:Nat} {l:List UInt8}
namespace Mth
structure Mg where
 K:Int
 F:Int
 T:Int
 I:Int
 L:Int
 k:ByteArray
 N:Int
abbrev bX (K F T I L:Int) (k:ByteArray) (N:Int):Array Value:=#[.int .i64 K,.int .i64 F,.int .i64 T,.int .i64 I,.int .i64 L,.string k,.int .i64 N]
abbrev mY (m:Mg):Value:= .agg #[.int .i64 m.K,.int .i64 m.F,.int .i64 m.T,.int .i64 m.I,.int .i64 m.L,.string m.k,.int .i64 m.N]
def uh (n:Int):Bool:=decide (0<=n/\n<=29)
def fK (n:Int):Bool:=decide (1<=n/\n<=1000000000)
def mJ (f t:Int):Bool:=uh f&&uh t&&decide (f≠t)
def dw (m:Mg):Bool:=
 mJ m.F m.T&&
  (if m.K=0 then keyOk m.k.data.toList&&fK m.N&&decide (m.I=0)&&decide (m.L=0)
   else if m.K=1 then keyOk m.k.data.toList&&fK m.N&&fK m.I&&decide (1<=m.L/\m.L<=m.I)
   else if m.K=2 then fK m.I&&decide (m.k.size=0)&&decide (m.N=0)&&decide (m.L=0)
   else false)
end Mth
open Go.RowKit
open Mth
theorem wp_at {Q:Exit->Act->World->Prop} {c:Code} {a:Act} (h:∀W',W'=W->Code.wp P c Q a W'):Code.wp P c Q a W:=h W rfl
theorem ay (w:World) (o:Obj):Below w.heap.size w (w.alloc o):=(Below.refl _ _).alloc (Nat.le_refl _) _
theorem JQ [Decidable p] (h:¬p):Ending.returned (.bool false)= .returned (.bool (decide p)):=by rw [decide_eq_false h]
theorem Wl {q:Prop} [Decidable p] [Decidable q] (h:p↔q):Ending.returned (.bool (decide p))= .returned (.bool (decide q)):=by rw [decide_eq_decide.2 h]
theorem yc (x a b:Int) (r:Bool) (w:World) (h:decide (a<=x/\x<=b)=r):Calls Tryz.prog 18 #[.int .i64 x,.int .i64 a,.int .i64 b] w λe w'=>e= .returned (.bool r)/\w=w':=by
 subst h;by_cases h:a<=x/\x<=b
 .rw [decide_eq_true h];exact mW x a b w h.1 h.2
 .rw [decide_eq_false h];exact pX x a b w Aaa
theorem nH (n:Int) (r:Bool) (w:World) (h:uh n=r):Calls Tryz.prog 100 #[.int .i64 n] w λe w'=>e= .returned (.bool r)/\w=w':=by
 go_in
 exact ajt
theorem eU (n:Int) (r:Bool) (w:World) (h:fK n=r):Calls Tryz.prog 49 #[.int .i64 n] w λe w'=>e= .returned (.bool r)/\w=w':=by
 go_in
 exact ajt
theorem isNode (n:Int) (r:Bool) (w:World) (h:uh n=r):Calls Tryz.prog 201 #[.int .i64 n] w λe w'=>e= .returned (.bool r)/\w=w':=by
 subst h;by_cases h0:0<=n
 .go_in
  go_wp2
  go_ret;exact⟨Wl Aaa,rfl⟩
 .go_in
  go_wp2
  go_ret;exact⟨JQ Aaa,rfl⟩
theorem aT (n:Int) (r:Bool) (w:World) (h:fK n=r):Calls Tryz.prog 169 #[.int .i64 n] w λe w'=>e= .returned (.bool r)/\w=w':=by
 subst h;by_cases h0:1<=n
 .go_in
  go_wp2
  go_ret;exact⟨Wl Aaa,rfl⟩
 .go_in
  go_wp2
  go_ret;exact⟨JQ Aaa,rfl⟩
theorem iC (b:Bool) (w:World) (h:keyOk s.data.toList=b):Calls Tryz.prog 204 #[.string s] w λe w'=>e= .returned (.bool b)/\w=w':=by
 rw [<-h];exact Js s w
theorem nU (b:Bool) (w:World) (hs:s.size<=maxLen) (h:keyOk s.data.toList=b):Calls Tryz.prog 52 #[.string s] w λe w'=>e= .returned (.bool b)/\w=w':=by
 rw [<-h];exact JW s w hs
def bv (c:UInt8):Value:= .int .u8 (c.toNat:Int)
theorem SE (src dst:TypeId) (hs:P.underlying src=some (.slice e)) (he:P.underlying e=some (.int .u8)) (hd:P.underlying dst=some .string) (h:w.ownsRow base e 1 v l.length (l.map bv)):(convert src dst v).run P w= .ok (.string ⟨l.toArray⟩) w:=by
 rcases h.2 with⟨rfl,hn⟩|⟨g,cap,cur,rfl,_⟩
 .rw [run_convert_bytes_string w src dst e none 0 0 hs he hd];have:l=[]:=List.length_eq_zero_iff.1 hn;subst this;rfl
 .apply run_convert_bytes_back w src dst e _ cap l hs he hd
  intro j hj;exact h.cells rfl j (bv l[j]) (by simp[hj])
theorem Qh {z:Int} (b:UInt8) (hz:z=b.toNat) (h:w.ownsRow base e 1 v (l.length+1) (l.map bv++[.int .u8 z])):
 w.ownsRow base e 1 v (l++[b]).length ((l++[b]).map bv):=by
 subst hz;have e1:(l++[b]).map bv=l.map bv++[.int .u8 (b.toNat:Int)]:=by simp[bv]
 rw [e1];simpa using h
theorem below_append {wr w1:World} {n:Nat} {xs:List Value} {o:Obj} (hb:aI w wr) (hown:wr.ownsRow w.heap.size e 1 v n xs) (hg:(wr.alloc o).grownBy w1 v.ownBlock):aI w w1:=
 (hb.alloc (by have:=hb.size;omega) o).grown hg (by have:=hb.size;simp;omega) (λk hk=>(hown.lt k hk).1)
set_option maxRecDepth 100000
theorem infoByte:(Tryz.prog.info? 5).map (λi=>(i.zero,i.size,i.bytes))=some (some (.int .u8 0),1,1):=Aab
theorem sizeByte:(Tryz.prog.info? 5).map (·.size)=some 1:=Aab
theorem cellsByte:Tryz.prog.cellsOf 5=1:=Aab
theorem Gu (w:World):Calls Tryz.prog 122 #[.string ByteArray.empty] w λe w'=>e= .returned (.string ByteArray.empty)/\w=w':=by
 go_in
 go_wp2
 go_ret;exact⟨rfl,rfl⟩
theorem TP (n:Nat) (hn:n<=281474976710656):∃M:Array Value,M.size=n/\∀W:World,(Instr.makeSlice 162 (.int .i64 (n:Int)) (.int .i64 (n:Int))).run Tryz.prog W= .ok (.slice (some ⟨W.heap.size,0,none⟩) n n) (W.alloc (.cells M 5)):=by
 obtain⟨i0,hi,hz0,hz1,hz2⟩:=info_parts infoByte;refine⟨madeCells (Value.int .u8 0).cells (((n:Nat):Int).toNat*i0.size),by rw [size_madeCells,hz1];simp,λW=>?_⟩;simpa using run_make (P:=Tryz.prog) W 162 5 i0 (.int .u8 0) Tryz.underlying162 hi hz0 .i64 .i64 (n:Int) (n:Int) Aaa Aaa Abc Aaa
theorem abv (w:World) (s:ByteArray) (M:Array Value) (hM:M.size=s.size):∃Y:Array Value,Y.toList=s.data.toList.map bv/\
 (Builtin.copy_ #[162,9] 3 #[.slice (some ⟨w.heap.size,0,none⟩) s.size s.size,.string s]).run Tryz.prog (w.alloc (.cells M 5))= .ok (goInt s.size) ((w.alloc (.cells M 5)).setRow w.heap.size Y):=by
 have h:=Lib.run_copy_row_string (P:=Tryz.prog) (w.alloc (.cells M 5)) 162 9 3 5 w.heap.size 0 s.size s.size s M 5 Tryz.underlying162 sizeByte (heap_alloc_new w _) (Nat.le_refl _) Aaa;refine⟨_,?_,h⟩;rw [List.toList_toArray,List.take_zero,List.nil_append,List.drop_of_length_le (by rw [Array.length_toList];omega),List.append_nil];rfl
theorem aeN (w:World) (h0:0 < s.size) (hlim:s.size<=281474976710656):
 Calls Tryz.prog 122 #[.string s] w (eO w (.string s)):=by
 obtain⟨M,hMs,hmk⟩:=TP s.size hlim;obtain⟨Y,hY,hcp⟩:=abv w s M hMs;have hYs:Y.size=s.size:=by rw [<-Array.length_toList,hY];simp
 have hg:((w.alloc (.cells M 5)).setRow w.heap.size Y).heap[w.heap.size]?=some (.cells Y 5 (0,0)):=setRow_heap _ _ M _ 5 (0,0) (heap_alloc_new w _)
 have hus:=Lib.run_unsafeString_row (P:=Tryz.prog) ((w.alloc (.cells M 5)).setRow w.heap.size Y) 202 3 9 5 Tryz.underlying202 cellsByte w.heap.size Y.size (by unfold World.shape?;rw [hg]) s.data.toList
  (λe=>by have:=bE s;rw [e] at this;simp at this;omega) (by rw [bE];omega) (by rw [bE];omega)
  (λj x hx=>Lib.cells_of_row hg Y.size j _ (by rw [List.take_of_length_le (by rw [Array.length_toList];exact Nat.le_refl _),hY];simp[bv,hx]))
 rw [bE,Lib.mk_data] at hus;have hne:((s.size:Int) == 0)=false:=beq_eq_false_iff_ne.2 Aaa;have hlt:(0:Int) < (s.size:Int):=Aaa
 clear hY hMs hg;go_in
 go_wp2
 go_ret;exact⟨rfl,Lib.below_freeze (below_setRow ((Below.refl _ w).alloc (Nat.le_refl _) _) (Nat.le_refl _) Y) (p:=⟨w.heap.size,0,none⟩) (Nat.le_refl _) _⟩
theorem clone (w:World) (hlim:s.size<=281474976710656):
 Calls Tryz.prog 67 #[.string s] w (eO w (.string s)):=by
 by_cases h0:0 < s.size
 .go_in
  go_wp2_with (go_at_call 122;refine(aeN s _ h0 hlim).mono ?_;rintro e w' ⟨rfl,hbel⟩)
  go_ret;exact⟨rfl,hbel⟩
 .obtain rfl:=eq_empty s Aaa;go_in
  go_wp2_with (go_at_call 122;refine(Gu _).mono ?_;rintro e w' ⟨rfl,rfl⟩)
  go_ret;exact⟨rfl,Below.refl _ _⟩
open Go.Lib (decDigits itoa)
open Go.Lib (decDigits)
namespace Mth
structure gQ where
 K:Int
 no:Int
 k:ByteArray
 n:Int
 m:Mg
def lQ (m:Mg):Bool:=decide (m.K=0/\m.F=0/\m.T=0/\m.I=0/\m.L=0/\m.k.toList=[]/\m.N=0)
def cK (o:gQ):Bool:=
 if o.K=0\/o.K=3\/o.K=4 then keyOk o.k.data.toList&&fK o.n&&decide (o.no=0)&&lQ o.m
 else if o.K=1 then keyOk o.k.data.toList&&fK o.n&&fK o.no&&lQ o.m
 else if o.K=2 then decide (o.k.toList=[])&&decide (o.n=0)&&fK o.no&&lQ o.m
 else if o.K=5 then decide (o.k.toList=[])&&decide (o.n=0)&&decide (o.no=0)&&lQ o.m
 else if o.K=6 then decide (o.k.toList=[])&&decide (o.n=0)&&decide (o.no=0)&&dw o.m
 else false
end Mth
abbrev bY (K no:Int) (k:ByteArray) (nn mK mF mT mI mL:Int) (mk:ByteArray) (mN:Int):Array Value:=#[.int .i64 K,.int .i64 no,.string k,.int .i64 nn,.int .i64 mK,.int .i64 mF,.int .i64 mT,.int .i64 mI,.int .i64 mL,.string mk,.int .i64 mN]
abbrev jJ (o:gQ):Value:= .agg #[.int .i64 o.K,.int .i64 o.no,.string o.k,.int .i64 o.n,.int .i64 o.m.K,.int .i64 o.m.F,.int .i64 o.m.T,.int .i64 o.m.I,.int .i64 o.m.L,.string o.m.k,.int .i64 o.m.N]
theorem alR:(Tryz.prog.info? 5).map (λi=>(i.zero,i.size,i.bytes))=some (some (.int .u8 0),1,1):=Aab
theorem uN (n:Int) (w:World) (h:n < 0\/4000000000 < n):
 Calls Tryz.prog 139 #[.int .i64 n] w λe w'=>e= .returned (.string ByteArray.empty)/\w=w':=by
 go_in
 go_wp2_with (go_at_call 18;refine(pX _ _ _ _ h).mono ?_;rintro e w' ⟨rfl,rfl⟩)
 go_ret;exact⟨rfl,rfl⟩
theorem F6 (n:Nat) (w:World) (h:n<=4000000000):
 Calls Tryz.prog 139 #[.int .i64 n] w (eO w (.string ⟨(Mth.put n).toArray⟩)):=by
 obtain⟨i0,hi,hz0,hz1,hz2⟩:=info_parts alR;go_in
 go_wp2_with (go_at_call 18;refine(mW _ _ _ _ ?_ ?_).mono ?_;omega;omega;rintro e w' ⟨rfl,rfl⟩)
 go_loopw [0,3] (λm v wr=>∃f cur pre,f<=5/\cur<=4000000000/\cur < 128 ^ (f+1)/\pre.length+f=5/\pre++Mth.putF f cur=Mth.put n/\m= .int .i64 (cur:Nat)/\wr.ownsRow w.heap.size 5 1 v pre.length (pre.map bv)/\aI w wr) (λm _ _=>(intOf m).toNat)
 case atStart=>exact⟨5,n,[],Aaa,Aaa,Aaa,rfl,rfl,rfl,World.ownsRow_lit _ #[] 0 (Nat.le_refl _) Aae rfl,(Below.refl _ _).alloc (Nat.le_refl _) _⟩
 case round=>
  obtain⟨f,cur,pre,hf,hc9,hcur,hpf,hput,rfl,hown,hbel⟩:=hrel;have HP:=Hq hput;clear hput;by_cases hbig:cur<=127
  .have HE:=Hq (Mth.put_end n f cur pre hbig HP);go_wp2_with (at_builtin;refine wpList_append_own _ rfl _ _ 162 rfl w.heap.size 5 i0 (.int .u8 0) 1 1 Tryz.underlying162 hi hz0 hz1 hz2 rfl Aae _ _ _ rfl (hown.alloc _) ⟨wr.heap.size,0,none⟩ 1 1 [.int .u8 (cur:Int)] rfl rfl ?c1 ?c2 ?c3 ?c4 ?c5 ?_)
   case c1=>exact cell_one_new _ _ _
   case c2=>intro u hu;simp at hu;subst hu;rfl
   case c3=>unfold maxLen;omega
   case c4=>omega
   case c5=>have:=hbel.size;simp;omega
   intro v' w1 hown' hgrow _;have O7:=below_append hbel hown hgrow;have hown2:=Qh (UInt8.ofNat cur) (by rw [Mth.toNat_byte _ Aaa]) hown';rw [ah HE] at hown2;have aj3:=SE 162 9 Tryz.underlying162 Tryz.underlying5 Tryz.underlying9 hown2;clear hown' hgrow hown hown2 hbel HE;go_wp2
   go_ret;exact⟨rfl,O7⟩
  .obtain⟨f',rfl,hc2,hl2,hp2⟩:=Mth.put_round n f cur pre hcur hbig hpf HP;have rz:=Hq hp2;clear hp2 HP;go_wp2_with (at_builtin;refine wpList_append_own _ rfl _ _ 162 rfl w.heap.size 5 i0 (.int .u8 0) 1 1 Tryz.underlying162 hi hz0 hz1 hz2 rfl Aae _ _ _ rfl (hown.alloc _) ⟨wr.heap.size,0,none⟩ 1 1 [.int .u8 (128+(cur:Int) % 128)] rfl rfl ?d1 ?d2 ?d3 ?d4 ?d5 ?_)
   case d1=>exact cell_one_new _ _ _
   case d2=>intro u hu;simp at hu;subst hu;rfl
   case d3=>unfold maxLen;omega
   case d4=>omega
   case d5=>have:=hbel.size;simp;omega
   intro v' w1 hown' hgrow _;have O7:=below_append hbel hown hgrow;have hown2:=Qh (UInt8.ofNat (128+cur % 128)) (by rw [Mth.toNat_byte _ Aaa];omega) hown';clear hown' hgrow hown hbel;go_wp2
   go_roundw
   case rel=>exact⟨f',cur / 128,_,Aaa,Aaa,hc2,hl2,rz,Aah,hown2,O7⟩
   case measure=>simp[intOf];omega
theorem vP (n:Int) (w:World) (h0:0<=n) (h:n<=4000000000):
 Calls Tryz.prog 139 #[.int .i64 n] w (eO w (.string ⟨(Mth.put n.toNat).toArray⟩)):=by
 obtain⟨m,rfl⟩:=Int.eq_ofNat_of_zero_le h0;exact F6 m w Aaa
def qU (s:ByteArray):ByteArray:=⟨(Mth.put s.size++s.data.toList).toArray⟩
theorem aeJ:(⟨(Mth.put s.size).toArray⟩:ByteArray)++s=qU s:=by
 apply ByteArray.ext
 simp[qU]
theorem BR (w:World) (h:1000 < s.size):
 Calls Tryz.prog 143 #[.string s] w λe w'=>e= .returned (.string ByteArray.empty)/\w=w':=by
 go_in
 go_wp2
 go_ret;exact⟨rfl,rfl⟩
theorem QW (w:World) (h:s.size<=1000):
 Calls Tryz.prog 143 #[.string s] w (eO w (.string (qU s))):=by
 have hl:=Mth.put_length s.size;have hadd:=λw1=>run_string_add_sum (P:=Tryz.prog) w1 ⟨(Mth.put s.size).toArray⟩ s (by rw [size_of_list];omega)
 simp only[aeJ] at hadd;go_in
 go_wp2_with (go_at_call 139;refine(F6 s.size _ Aaa).mono ?_;rintro e w' ⟨rfl,hbel⟩)
 go_ret;exact⟨rfl,by assumption⟩
def l7 (n:Int):ByteArray:=if 0<=n/\n<=4000000000 then⟨(Mth.put n.toNat).toArray⟩ else ByteArray.empty
theorem lD (n:Int) (w:World):Calls Tryz.prog 139 #[.int .i64 n] w (eO w (.string (l7 n))):=by
 unfold l7;by_cases h:0<=n/\n<=4000000000
 .rw [if_pos h];exact vP n w h.1 h.2
 .rw [if_neg h];exact(uN n w Aaa).mono λe w' ⟨he,hw⟩=>⟨he,hw▸Below.refl _ _⟩
def og (s:ByteArray):ByteArray:=if s.size<=1000 then qU s else ByteArray.empty
theorem vQ (w:World):Calls Tryz.prog 143 #[.string s] w (eO w (.string (og s))):=by
 unfold og;by_cases h:s.size<=1000
 .rw [if_pos h];exact QW s w h
 .rw [if_neg h];exact(BR s w Aaa).mono λe w' ⟨he,hw⟩=>⟨he,hw▸Below.refl _ _⟩
theorem nA (n:Int):(l7 n).size<=6:=by
 unfold l7;split
 .rw [size_of_list];exact Mth.put_length _
 .decide
theorem BM (x:ByteArray):(og x).size<=1006:=by
 unfold og;split
 .unfold qU;rw [size_of_list,List.length_append,bE];have:=Mth.put_length x.size;omega
 .decide
theorem Dr (K F T I L:Int) (k:ByteArray) (N:Int) (w:World) (_hs:k.size<=maxLen) (hr:mJ F T=false):Calls Tryz.prog 144 #[mY ⟨K,F,T,I,L,k,N⟩] w (eO w (.bool (dw ⟨K,F,T,I,L,k,N⟩))):=by
 cases h1:uh F
 case' false=>
  have HP:=Hq (show dw ⟨K,F,T,I,L,k,N⟩=false by simp[dw,mJ,h1]);have H1:=Hq (λw1=>nH F false w1 h1);clear h1 hr;exact ajg
 have H1:=Hq (λw1=>nH F true w1 h1);cases h2:uh T
 case' false=>
  have HP:=Hq (show dw ⟨K,F,T,I,L,k,N⟩=false by simp[dw,mJ,h2]);have H2:=Hq (λw1=>nH T false w1 h2);clear h1 h2 hr;exact aiH
 have H2:=Hq (λw1=>nH T true w1 h2)
 have hft:F=T:=by
  rcases Decidable.em (F=T) with h|h
  .exact h
  .simp[mJ,h1,h2,h] at hr
 have HP:=Hq (show dw ⟨K,F,T,I,L,k,N⟩=false by simp[dw,mJ,hft]);clear h1 h2 hr;subst hft;exact ajg
theorem FW (_K F T I L:Int) (k:ByteArray) (N:Int) (w:World) (hs:k.size<=maxLen) (hr:mJ F T=true):Calls Tryz.prog 144 #[mY ⟨0,F,T,I,L,k,N⟩] w (eO w (.bool (dw ⟨0,F,T,I,L,k,N⟩))):=by
 open ao1 in exact aer
theorem Ii (_K F T I L:Int) (k:ByteArray) (N:Int) (w:World) (hs:k.size<=maxLen) (hr:mJ F T=true):Calls Tryz.prog 144 #[mY ⟨1,F,T,I,L,k,N⟩] w (eO w (.bool (dw ⟨1,F,T,I,L,k,N⟩))):=by
 open ao0 in exact aer
theorem Ih (_K F T I L:Int) (k:ByteArray) (N:Int) (w:World) (hs:k.size<=maxLen) (hr:mJ F T=true):Calls Tryz.prog 144 #[mY ⟨2,F,T,I,L,k,N⟩] w (eO w (.bool (dw ⟨2,F,T,I,L,k,N⟩))):=by
 open aoZ in exact aer
theorem FV (K F T I L:Int) (k:ByteArray) (N:Int) (w:World) (_hs:k.size<=maxLen) (hr:mJ F T=true) (k0:¬K=0) (k1:¬K=1) (k2:¬K=2):Calls Tryz.prog 144 #[mY ⟨K,F,T,I,L,k,N⟩] w (eO w (.bool (dw ⟨K,F,T,I,L,k,N⟩))):=by
 open aoY in exact aer
theorem kD (m:Mg) (w:World) (hs:m.k.size<=maxLen):Calls Tryz.prog 144 #[mY m] w (eO w (.bool (dw m))):=by
 obtain⟨K,F,T,I,L,k,N⟩:=m;cases hr:mJ F T
 .exact Dr K F T I L k N w hs hr
 by_cases k0:K=0
 .subst k0;exact FW 0 F T I L k N w hs hr
 by_cases k1:K=1
 .subst k1;exact Ii 0 F T I L k N w hs hr
 by_cases k2:K=2
 .subst k2;exact Ih 0 F T I L k N w hs hr
 exact FV K F T I L k N w hs hr k0 k1 k2
theorem aFw:Tryz.prog.globalNamed "errors.errorType" =some 0:=Aab
theorem al3:(Tryz.prog.cutTypes.find? (·.1 == "internal/reflectlite.rtype")).map (·.2)=some 330:=Aab
theorem alZ:((List.range 401).filter λt=>Tryz.prog.rowNamed t [101,114,114,111,114])=[242]:=Aab
theorem Y6:Tryz.prog.types.size=401:=Aab
theorem Xv {l:List (String×DataW Unit)} (h:handlesMet Tryz.prog l W) (hm:("errors.errorType",Rows.laid_errors_errorType)∈l):Handle W:=by
 obtain⟨name,u,ty,e1,e2,e3,e4,e5⟩:=h _ hm;have en:name=[101,114,114,111,114]:=(Option.some.inj e1).symm;subst en;obtain rfl:=Option.some.inj (al3.symm.trans e2);have hm:ty∈(List.range 401).filter λt=>Tryz.prog.rowNamed t [101,114,114,111,114]:=List.mem_filter.2 ⟨List.mem_range.2 (by rw [<-Y6];exact e3),e4⟩
 rw [alZ] at hm;obtain rfl:=List.mem_singleton.1 hm;have hh:typeHandle Tryz.prog 242= .pointer (some ⟨6,242,none⟩):=Aab
 rw [hh] at e5;have:=World.var?_cell aFw e5 0;unfold Handle;simpa using this
theorem SS:(Tryz.prog.globals[3]?).map (·.type)=some 242:=Aab
theorem ae4:(Tryz.prog.globals[1]?).map (·.type)=some 242:=Aab
theorem SN:(Tryz.prog.globals[2]?).map (·.type)=some 242:=Aab
theorem ae3:(Tryz.prog.globals[4]?).map (·.type)=some 242:=Aab
theorem abI:(Tryz.prog.globals[5]?).map (·.type)=some 242:=Aab
theorem Xo:Tryz.prog.globalNamed "loop.example/g00264/impl.errNoPurses" =some 3:=Aab
theorem alo:Tryz.prog.globalNamed "loop.example/g00264/impl.errNoKey" =some 1:=Aab
theorem Xn:Tryz.prog.globalNamed "loop.example/g00264/impl.errNoAmount" =some 2:=Aab
theorem aln:Tryz.prog.globalNamed "loop.example/g00264/impl.errFewer" =some 4:=Aab
theorem ae2:Tryz.prog.globalNamed "loop.example/g00264/impl.errBeyond" =some 5:=Aab
theorem abr:Tryz.prog.cellsOf 390=1:=Aab
theorem abt:Tryz.prog.cellsOf 9=1:=Aab
theorem Wp: "*" ++ "errors.errorString" = "*errors.errorString" :=Aae
theorem al2 (u:TypeId) (h:Tryz.prog.typeName? 3 u=some "*errors.errorString"):u=372:=
 typeName_ptr_named (nm:= "errors.errorString") (by rw [Wp];kernel_rfl) Aab Aae u (by rw [Wp];exact h)
theorem QA {n:String} {text:List UInt8} {r:List (String×DataW Unit)} {g:Nat} (h:laidMet Tryz.prog ((n,.iface "*errors.errorString" (.ptr (.agg [.lit (.string text)])))::r) W) (hg:Tryz.prog.globalNamed n=some g) (ht:(Tryz.prog.globals[g]?).map (·.type)=some 242):
 ∃(a:Addr) (s:ByteArray) (c:Array Value) (t:TypeId),W.cell? ⟨g,0,none⟩=some (tL a)/\W.cell? a=some (.string s)/\s.data.toList=text/\W.heap[a.block]?=some (.cells c t (0,0)):=by
 obtain⟨ps,⟨g0',t0',cs0,f0,p0,q0,hg0',ht0',hv0,hd0,_,e0⟩,hnd,hrows⟩:=h;obtain rfl:=Option.some.inj (hg.symm.trans hg0');obtain rfl:=Option.some.inj (ht.symm.trans ht0');subst e0;obtain⟨l0⟩:=cs0
 have ok0:∀u v,l0=[.iface u v]->Value.okWide Tryz.prog W .any 0 u v:=λu v e=>by
  subst e
  exact(hrows g 0 (by simp[MemPlace.row])).2 u v (by simpa using World.var?_cell hg0' hv0 0)
 obtain⟨a0,s0,rfl,hc0,hs0,hz0,rfl⟩:=errorString_of_trod Tryz.underlying242 al2 Tryz.underlying372 Tryz.underlying390 rfl rfl Tryz.underlying9 abr abt hd0 ok0;obtain⟨c0,t0,hb0⟩:=(hrows a0.block a0.off (by simp[MemPlace.row])).1;exact⟨a0,s0,c0,t0,by simpa using World.var?_cell hg0' hv0 0,hc0,hs0,hb0⟩
theorem apart {a b:Addr} {s t:ByteArray} (ha:W.cell? a=some (.string s)) (hb:W.cell? b=some (.string t)) (hne:s.data.toList≠t.data.toList):a≠b:=λe=>by
 rw [e,hb] at ha;injection ha with ha
 injection ha with ha
 exact hne (by rw [ha])
theorem abD (h:laidMet Tryz.prog [("loop.example/g00264/impl.errNoPurses",Rows.laid_loop_example_g00264_impl_errNoPurses),("loop.example/g00264/impl.errNoKey",Rows.laid_loop_example_g00264_impl_errNoKey),("loop.example/g00264/impl.errNoAmount",Rows.laid_loop_example_g00264_impl_errNoAmount),("loop.example/g00264/impl.errFewer",Rows.laid_loop_example_g00264_impl_errFewer),("loop.example/g00264/impl.errBeyond",Rows.laid_loop_example_g00264_impl_errBeyond)] W):∃E,iI W E:=by
 obtain⟨a2,s2,k2,t2,v2,c2,x2,b2⟩:=QA h Xo SS;have h1:=h.tail;obtain⟨a0,s0,k0,t0,v0,c0,x0,b0⟩:=QA h1 alo ae4;have h2:=h1.tail;obtain⟨a1,s1,k1,t1,v1,c1,x1,b1⟩:=QA h2 Xn SN;have h3:=h2.tail;obtain⟨a3,s3,k3,t3,v3,c3,x3,b3⟩:=QA h3 aln ae3;have h4:=h3.tail;obtain⟨a4,s4,k4,t4,v4,c4,x4,b4⟩:=QA h4 ae2 abI;let E:Nat->Addr:=λi=>if i=3 then a2 else if i=1 then a0 else if i=2 then a1 else if i=4 then a3 else a4
 let T:Nat->ByteArray:=λi=>if i=3 then s2 else if i=1 then s0 else if i=2 then s1 else if i=4 then s3 else s4
 have hT:∀i,(1<=i/\i < 6)->W.cell? (E i)=some (.string (T i)):=λi hi=>by
  have:i=1\/i=2\/i=3\/i=4\/i=5:=Aaa
  rcases this with rfl|rfl|rfl|rfl|rfl
  all_goals first|exact c0|exact c1|exact c2|exact c3|exact c4
 refine⟨E,⟨λi hi=>?_,λi hi=>?_,λi j hi hj hne=>apart (hT i hi) (hT j hj) ?_⟩⟩
 .have:i=1\/i=2\/i=3\/i=4\/i=5:=Aaa
  rcases this with rfl|rfl|rfl|rfl|rfl
  all_goals first|exact v0|exact v1|exact v2|exact v3|exact v4
 .have:i=1\/i=2\/i=3\/i=4\/i=5:=Aaa
  rcases this with rfl|rfl|rfl|rfl|rfl
  all_goals first|exact⟨_,_,b0⟩|exact⟨_,_,b1⟩|exact⟨_,_,b2⟩|exact⟨_,_,b3⟩|exact⟨_,_,b4⟩
 .have hi':i=1\/i=2\/i=3\/i=4\/i=5:=Aaa
  have hj':j=1\/j=2\/j=3\/j=4\/j=5:=Aaa
  rcases hi' with rfl|rfl|rfl|rfl|rfl<;>rcases hj' with rfl|rfl|rfl|rfl|rfl
  all_goals first|exact absurd rfl hne|(simp[T,x0,x1,x2,x3,x4])
theorem wQ (h:laidMetH Tryz.prog Rows.fnExactKeeperOkRow.laid W):(∃E,iI W E)/\Handle W:=by
 have h':laidMet Tryz.prog [("loop.example/g00264/impl.errNoPurses",Rows.laid_loop_example_g00264_impl_errNoPurses),("loop.example/g00264/impl.errNoKey",Rows.laid_loop_example_g00264_impl_errNoKey),("loop.example/g00264/impl.errNoAmount",Rows.laid_loop_example_g00264_impl_errNoAmount),("loop.example/g00264/impl.errFewer",Rows.laid_loop_example_g00264_impl_errFewer),("loop.example/g00264/impl.errBeyond",Rows.laid_loop_example_g00264_impl_errBeyond)] W/\handlesMet Tryz.prog [("errors.errorType",Rows.laid_errors_errorType)] W:=h;exact⟨abD h'.1,Xv h'.2 (List.mem_singleton.2 rfl)⟩
end Go.Proofs.YtohmklmkjmlpjaaGreatDoor
