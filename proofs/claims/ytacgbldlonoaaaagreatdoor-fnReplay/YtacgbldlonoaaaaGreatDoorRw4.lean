/- Parts. -/
import Derived.Test.YtacgbldlonoaaaaGreatDoorRw3
import Derived.Test.YtacgbldlonoaaaaGreatDoorRw2
namespace Go.Proofs.YtacgbldlonoaaaaGreatDoor
open Go.Proofs.Tryz
set_option maxHeartbeats 2000000
open Go.RowKit
open Mth
variable (s:ByteArray) (w:World) {c n base:Nat} {e:TypeId} {v:Value} {xs:List Value} {w' wr w1:World} {o:Obj} {l:List UInt8}
def bv (c:UInt8):Value:= .int .u8 (c.toNat:Int)
theorem E9 {P:Program} {w:World} (src dst:TypeId) (hs:P.underlying src=some (.slice e)) (he:P.underlying e=some (.int .u8)) (hd:P.underlying dst=some .string) (h:w.ownsRow base e 1 v l.length (l.map bv)):(convert src dst v).run P w= .ok (.string ⟨l.toArray⟩) w:=by
 rcases h.2 with⟨rfl,hn⟩|⟨g,cap,cur,rfl,_⟩
 .rw [run_convert_bytes_string w src dst e none 0 0 hs he hd];have:l=[]:=List.length_eq_zero_iff.1 hn;subst this;rfl
 .apply run_convert_bytes_back w src dst e _ cap l hs he hd
  intro j hj;exact h.cells rfl j (bv l[j]) (by simp[hj])
theorem FZ {w:World} {z:Int} (b:UInt8) (hz:z=b.toNat) (h:w.ownsRow base e 1 v (l.length+1) (l.map bv++[.int .u8 z])):
 w.ownsRow base e 1 v (l++[b]).length ((l++[b]).map bv):=by
 subst hz;have e1:(l++[b]).map bv=l.map bv++[.int .u8 (b.toNat:Int)]:=by simp[bv]
 rw [e1];simpa using h
theorem below_append {w:World} (hb:aY w wr) (hown:wr.ownsRow w.heap.size e 1 v n xs) (hg:(wr.alloc o).grownBy w1 v.ownBlock):aY w w1:=
 (hb.alloc (by have:=hb.size;omega) o).grown hg (by have:=hb.size;simp;omega) (λk hk=>(hown.lt k hk).1)
set_option maxRecDepth 100000
theorem infoByte:(prog.info? 5).map (λi=>(i.zero,i.size,i.bytes))=some (some (.int .u8 0),1,1):=Aab
theorem sizeByte:(prog.info? 5).map (·.size)=some 1:=Aab
theorem cellsByte:prog.cellsOf 5=1:=Aab
theorem Hw (w:World):Calls prog 161 #[.string ByteArray.empty] w λe w'=>e= .returned (.string ByteArray.empty)/\w=w':=by
 go_in
 go_wp2
 go_ret;exact⟨rfl,rfl⟩
theorem TQ (n:Nat) (hn:n<=281474976710656):∃M:Array Value,M.size=n/\∀W:World,(Instr.makeSlice 22 (.int .i64 (n:Int)) (.int .i64 (n:Int))).run prog W= .ok (.slice (some ⟨W.heap.size,0,none⟩) n n) (W.alloc (.cells M 5)):=by
 obtain⟨i0,hi,hz0,hz1,hz2⟩:=info_parts infoByte;refine⟨madeCells (Value.int .u8 0).cells (((n:Nat):Int).toNat*i0.size),by rw [size_madeCells,hz1];simp,λW=>?_⟩;simpa using run_make (P:=prog) W 22 5 i0 (.int .u8 0) underlying22 hi hz0 .i64 .i64 (n:Int) (n:Int) Aaa Aaa (by rw [hz2];omega) Aaa
theorem aa3 (w:World) (s:ByteArray) (M:Array Value) (hM:M.size=s.size):∃Y:Array Value,Y.toList=s.data.toList.map bv/\
 (Builtin.copy_ #[22,9] 3 #[.slice (some ⟨w.heap.size,0,none⟩) s.size s.size,.string s]).run prog (w.alloc (.cells M 5))= .ok (goInt s.size) ((w.alloc (.cells M 5)).setRow w.heap.size Y):=by
 have h:=Lib.run_copy_row_string (P:=prog) (w.alloc (.cells M 5)) 22 9 3 5 w.heap.size 0 s.size s.size s M 5 underlying22 sizeByte (heap_alloc_new w _) (Nat.le_refl _) Aaa;refine⟨_,?_,h⟩;rw [List.toList_toArray,List.take_zero,List.nil_append,List.drop_of_length_le (by rw [Array.length_toList];omega),List.append_nil];rfl
theorem adW (h0:0 < s.size) (hlim:s.size<=281474976710656):
 Calls prog 161 #[.string s] w (fF w (.string s)):=by
 obtain⟨M,hMs,hmk⟩:=TQ s.size hlim;obtain⟨Y,hY,hcp⟩:=aa3 w s M hMs;have hYs:Y.size=s.size:=by rw [<-Array.length_toList,hY];simp
 have hg:((w.alloc (.cells M 5)).setRow w.heap.size Y).heap[w.heap.size]?=some (.cells Y 5 (0,0)):=setRow_heap _ _ M _ 5 (0,0) (heap_alloc_new w _)
 have hus:=Lib.run_unsafeString_row (P:=prog) ((w.alloc (.cells M 5)).setRow w.heap.size Y) 217 3 9 5 underlying217 cellsByte w.heap.size Y.size (by unfold World.shape?;rw [hg]) s.data.toList
  (λe=>by have:=aH s;rw [e] at this;simp at this;omega) (by rw [aH];omega) (by rw [aH];omega)
  (λj x hx=>Lib.cells_of_row hg Y.size j _ (by rw [List.take_of_length_le (by rw [Array.length_toList];exact Nat.le_refl _),hY];simp[bv,hx]))
 rw [aH,Lib.mk_data] at hus;have hne:((s.size:Int) == 0)=false:=beq_eq_false_iff_ne.2 Aaa;have hlt:(0:Int) < (s.size:Int):=Aaa
 clear hY hMs hg;go_in
 go_wp2
 go_ret;exact⟨rfl,Lib.below_freeze (below_setRow ((Below.refl _ w).alloc (Nat.le_refl _) _) (Nat.le_refl _) Y) (p:=⟨w.heap.size,0,none⟩) (Nat.le_refl _) _⟩
theorem clone (hlim:s.size<=281474976710656):
 Calls prog 102 #[.string s] w (fF w (.string s)):=by
 by_cases h0:0 < s.size
 .go_in
  go_wp2_with (go_at_call 161;refine(adW s _ h0 hlim).mono ?_;rintro e w' ⟨rfl,hbel⟩)
  go_ret;exact⟨rfl,hbel⟩
 .obtain rfl:=eq_empty s Aaa;go_in
  go_wp2_with (go_at_call 161;refine(Hw _).mono ?_;rintro e w' ⟨rfl,rfl⟩)
  go_ret;exact⟨rfl,Below.refl _ _⟩
open Go.Lib (decDigits itoa)
open Go.Lib (decDigits)
theorem ajL:(prog.info? 5).map (λi=>(i.zero,i.size,i.bytes))=some (some (.int .u8 0),1,1):=Aab
theorem vI (n:Int) (w:World) (h:n < 0\/4000000000 < n):
 Calls prog 213 #[.int .i64 n] w λe w'=>e= .returned (.string ByteArray.empty)/\w=w':=by
 go_in
 go_wp2_with (go_at_call 63;refine(sW _ _ _ _ h).mono ?_;rintro e w' ⟨rfl,rfl⟩)
 go_ret;exact⟨rfl,rfl⟩
theorem Gt (n:Nat) (w:World) (h:n<=4000000000):
 Calls prog 213 #[.int .i64 n] w (fF w (.string ⟨(Mth.put n).toArray⟩)):=by
 obtain⟨i0,hi,hz0,hz1,hz2⟩:=info_parts ajL;go_in
 go_wp2_with (go_at_call 63;refine(qx _ _ _ _ ?_ ?_).mono ?_;omega;omega;rintro e w' ⟨rfl,rfl⟩)
 go_loopw [0,3] (λm v wr=>∃f cur pre,f<=5/\cur<=4000000000/\cur < 128 ^ (f+1)/\pre.length+f=5/\pre++Mth.putF f cur=Mth.put n/\m= .int .i64 (cur:Nat)/\wr.ownsRow w.heap.size 5 1 v pre.length (pre.map bv)/\aY w wr) (λm _ _=>(intOf m).toNat)
 case atStart=>exact⟨5,n,[],Aaa,Aaa,Aaa,rfl,rfl,rfl,World.ownsRow_lit _ #[] 0 (Nat.le_refl _) Aae rfl,(Below.refl _ _).alloc (Nat.le_refl _) _⟩
 case round=>
  obtain⟨f,cur,pre,hf,hc9,hcur,hpf,hput,rfl,hown,hbel⟩:=hrel;have HP:=Hq hput;clear hput;by_cases hbig:cur<=127
  .have HE:=Hq (Mth.put_end n f cur pre hbig HP);go_wp2_with (at_builtin;refine wpList_append_own _ rfl _ _ 22 rfl w.heap.size 5 i0 (.int .u8 0) 1 1 underlying22 hi hz0 hz1 hz2 rfl Aae _ _ _ rfl (hown.alloc _) ⟨wr.heap.size,0,none⟩ 1 1 [.int .u8 (cur:Int)] rfl rfl ?c1 ?c2 ?c3 ?c4 ?c5 ?_)
   case c1=>exact cell_one_new _ _ _
   case c2=>intro u hu;simp at hu;subst hu;rfl
   case c3=>unfold maxLen;omega
   case c4=>omega
   case c5=>have:=hbel.size;simp;omega
   intro v' w1 hown' hgrow _;have Pf:=below_append hbel hown hgrow;have hown2:=FZ (UInt8.ofNat cur) (by rw [Mth.toNat_byte _ Aaa]) hown';rw [ah HE] at hown2;have abt:=E9 22 9 underlying22 underlying5 underlying9 hown2;clear hown' hgrow hown hown2 hbel HE;go_wp2
   go_ret;exact⟨rfl,Pf⟩
  .obtain⟨f',rfl,hc2,hl2,hp2⟩:=Mth.put_round n f cur pre hcur hbig hpf HP;have Bf:=Hq hp2;clear hp2 HP;go_wp2_with (at_builtin;refine wpList_append_own _ rfl _ _ 22 rfl w.heap.size 5 i0 (.int .u8 0) 1 1 underlying22 hi hz0 hz1 hz2 rfl Aae _ _ _ rfl (hown.alloc _) ⟨wr.heap.size,0,none⟩ 1 1 [.int .u8 (128+(cur:Int) % 128)] rfl rfl ?d1 ?d2 ?d3 ?d4 ?d5 ?_)
   case d1=>exact cell_one_new _ _ _
   case d2=>intro u hu;simp at hu;subst hu;rfl
   case d3=>unfold maxLen;omega
   case d4=>omega
   case d5=>have:=hbel.size;simp;omega
   intro v' w1 hown' hgrow _;have Pf:=below_append hbel hown hgrow;have hown2:=FZ (UInt8.ofNat (128+cur % 128)) (by rw [Mth.toNat_byte _ Aaa];omega) hown';clear hown' hgrow hown hbel;go_wp2
   go_roundw
   case rel=>exact⟨f',cur / 128,_,Aaa,Aaa,hc2,hl2,Bf,Aai,hown2,Pf⟩
   case measure=>simp[intOf];omega
theorem wH (n:Int) (w:World) (h0:0<=n) (h:n<=4000000000):
 Calls prog 213 #[.int .i64 n] w (fF w (.string ⟨(Mth.put n.toNat).toArray⟩)):=by
 obtain⟨m,rfl⟩:=Int.eq_ofNat_of_zero_le h0;exact Gt m w Aaa
def nH (s:ByteArray):ByteArray:=⟨(Mth.put s.size++s.data.toList).toArray⟩
theorem adU (s:ByteArray):(⟨(Mth.put s.size).toArray⟩:ByteArray)++s=nH s:=by
 apply ByteArray.ext
 simp[nH]
theorem CB (h:1000 < s.size):
 Calls prog 179 #[.string s] w λe w'=>e= .returned (.string ByteArray.empty)/\w=w':=by
 go_in
 go_wp2
 go_ret;exact⟨rfl,rfl⟩
theorem QY (h:s.size<=1000):
 Calls prog 179 #[.string s] w (fF w (.string (nH s))):=by
 have hl:=Mth.put_length s.size;have hadd:=λw1=>run_string_add_sum (P:=prog) w1 ⟨(Mth.put s.size).toArray⟩ s (by rw [size_of_list];omega)
 simp only[adU] at hadd;go_in
 go_wp2_with (go_at_call 213;refine(Gt s.size _ Aaa).mono ?_;rintro e w' ⟨rfl,hbel⟩)
 go_ret;exact⟨rfl,by assumption⟩
def lZ (n:Int):ByteArray:=if 0<=n/\n<=4000000000 then⟨(Mth.put n.toNat).toArray⟩ else ByteArray.empty
theorem l7 (n:Int) (w:World):Calls prog 213 #[.int .i64 n] w (fF w (.string (lZ n))):=by
 unfold lZ;by_cases h:0<=n/\n<=4000000000
 .rw [if_pos h];exact wH n w h.1 h.2
 .rw [if_neg h];exact(vI n w Aaa).mono λe w' ⟨he,hw⟩=>⟨he,hw▸Below.refl _ _⟩
def jy (s:ByteArray):ByteArray:=if s.size<=1000 then nH s else ByteArray.empty
theorem rO:Calls prog 179 #[.string s] w (fF w (.string (jy s))):=by
 unfold jy;by_cases h:s.size<=1000
 .rw [if_pos h];exact QY s w h
 .rw [if_neg h];exact(CB s w Aaa).mono λe w' ⟨he,hw⟩=>⟨he,hw▸Below.refl _ _⟩
theorem fu (n:Int):(lZ n).size<=6:=by
 unfold lZ;split
 .rw [size_of_list];exact Mth.put_length _
 .decide
theorem oh (x:ByteArray):(jy x).size<=1006:=by
 unfold jy;split
 .unfold nH;rw [size_of_list,List.length_append,aH];have:=Mth.put_length x.size;omega
 .decide
theorem qA.keep_below {w:World} (h:qA w c) (hb:aY w w'):qA w' c:=h.below hb h.lt
theorem gM (c:Nat) (n:Int) (w:World) (hc:qA w c) (hn:0 < n) (hm:n<=4000000000):
 Calls prog 44 #[.pointer (some ⟨c,0,none⟩),.int .i64 n] w λe w'=>∃x:Int,e= .returned (.int .i64 x)/\0<=x/\x < n/\qA w' c/\Keeps c w w':=by
 have HC:=Hq hc;clear hc;have hm1:∀x:Int,0<=x->x % n < n:=λx _=>Int.emod_lt_of_pos x hn
 have hm2:∀x:Int,0<=x % n:=λx=>Int.emod_nonneg x Aaa
 by_cases hs:n<=256
 .have H1:=Hq hm1;have H2:=Hq hm2;clear hm1 hm2;go_in
  go_wp2_with (go_at_call 122;refine(zP c _ HC).mono ?_;rintro e w1 ⟨x,rfl,hx0,hx1,hc1,hk1⟩;have xE:=Hq hc1;clear hc1)
  go_ret;exact⟨_,rfl,H2 _,H1 _ hx0,xE,hk1⟩
 .have H1:=Hq hm1;have H2:=Hq hm2;clear hm1 hm2;go_in
  go_wp2_with fail;refine(zP c _ HC).mono ?_;rintro e w1 ⟨x,rfl,hx0,hx1,hc1,hk1⟩;have xE:=Hq hc1;clear hc1;go_wp2_with fail;refine(zP c _ xE).mono ?_;rintro e w2 ⟨y,rfl,hy0,hy1,hc2,hk2⟩;have oI:=Hq hc2;clear hc2;go_wp2_with fail;refine(zP c _ oI).mono ?_;rintro e w3 ⟨z,rfl,hz0,hz1,hc3,hk3⟩;have Nt:=Hq hc3;clear hc3;go_wp2_with fail;refine(zP c _ Nt).mono ?_;rintro e w4 ⟨t,rfl,ht0,ht1,hc4,hk4⟩;have HC4:=Hq hc4;clear hc4;go_wp2
  go_ret;exact⟨_,rfl,H2 _,H1 _ Aaa,HC4,((hk1.trans hk2).trans hk3).trans hk4⟩
theorem jm (c g cap:Nat) (zs:List Int) (w:World) (hc:qA w c) (hne:g≠c) (hp:0 < zs.length) (hm:zs.length<=1000) (hcell:∀i (hi:i < zs.length),w.cell? ⟨g,i,none⟩=some (.int .i64 zs[i])) (hgl:g < w.heap.size):
 Calls prog 43 #[.pointer (some ⟨c,0,none⟩),.slice (some ⟨g,0,none⟩) zs.length cap] w λe w'=>∃z:Int,e= .returned (.int .i64 z)/\z∈zs/\qA w' c/\Keeps c w w':=by
 have HC:=Hq hc;have HL:=Hq hcell;clear hc hcell;go_in
 go_wp2_with fail;refine(gM c _ _ HC Aaa Aaa).mono ?_;rintro e w1 ⟨x,rfl,hx0,hx1,hc1,hk1⟩;obtain⟨k,rfl⟩:=Int.eq_ofNat_of_zero_le hx0;have hk:k < zs.length:=Aaa
 have hcell1:w1.cell? ⟨g,k,none⟩=some (.int .i64 zs[k]):=(World.cell?_of_block (w:=w) (hk1.block g hgl hne)).trans (HL k hk);exact ahP
theorem ajR (a:Option Addr) (len cap:Nat) (w:World) (hlen:len<=1048576) (hcode:∀j < len,∃(b off:Nat) (z:Int),a=some ⟨b,off,none⟩/\b < w.heap.size/\0<=z/\z<=255/\w.cell? ⟨b,off+j,none⟩=some (.int .u8 z)):
 Calls prog 31 #[.slice a len cap] w λe w'=>e= .returned (.pointer (some ⟨w.heap.size,0,none⟩))/\qA w' w.heap.size/\aY w w':=by
 have Jp:=Hq hcode;clear hcode;go_in
 go_wp2
 go_loop [3,4] (λh i=>∃(k:Nat) (x:Int),k<=len/\i= .int .i64 k/\h= .int .i64 x) (λ_ i=>len - (intOf i).toNat)
 case atStart=>exact⟨0,_,Nat.zero_le _,rfl,rfl⟩
 case round=>
  obtain⟨k,x,hk,rfl,rfl⟩:=hrel;by_cases hlt:k < len
  .obtain⟨b,off,z,rfl,hb,z0,z1,hz⟩:=ah Jp k hlt;by_cases h4:k < 4000
   .go_wp2
    go_round
    case rel=>exact⟨k+1,_,Aaa,Aai,rfl⟩
    case measure=>simp[intOf];omega
   .exact axx
  .have hd:decide ((k:Int) < (len:Int))=false:=Aaf
   exact axx
theorem kE (w:World) (zs:List Int) (t:TypeId) (i:Nat) (hi:i < zs.length):(w.alloc (.cells (zs.map (Value.int .i64)).toArray t)).cell? ⟨w.heap.size,i,none⟩=some (.int .i64 zs[i]):=by
 rw [World.cell?_alloc_mark];simp[hi]
theorem ab6 (w:World) (xs:List ByteArray) (t:TypeId) (i:Nat) (hi:i < xs.length):(w.alloc (.cells (xs.map Value.string).toArray t)).cell? ⟨w.heap.size,i,none⟩=some (.string xs[i]):=by
 rw [World.cell?_alloc_mark];simp[hi]
theorem mD {w:World} (o:Obj):Keeps c w (w.alloc o):=Keeps.of_below ((Below.refl _ _).alloc (Nat.le_refl _) _)
theorem jg {w:World} (h:qA w c) (o:Obj):qA (w.alloc o) c:=h.keep_below ((Below.refl _ _).alloc (Nat.le_refl _) _)
def xW (w:World) (a:Option Addr) (len:Nat):Prop:=len<=1048576/\∀j < len,∃(b off:Nat) (z:Int),a=some ⟨b,off,none⟩/\b < w.heap.size/\0<=z/\z<=255/\w.cell? ⟨b,off+j,none⟩=some (.int .u8 z)
theorem xW.below {w:World} {a:Option Addr} {len:Nat} (h:xW w a len) (hb:aY w w'):xW w' a len:=by
 refine⟨h.1,λj hj=>?_⟩;obtain⟨b,off,z,e,hbl,z0,z1,hc⟩:=h.2 j hj;exact⟨b,off,z,e,Nat.lt_of_lt_of_le hbl hb.size,z0,z1,by rw [hb.cell (p:=⟨b,off+j,none⟩) hbl];exact hc⟩
theorem aev (c g cap:Nat) (xs:List ByteArray) (w:World) (hc:qA w c) (hne:g≠c) (hp:0 < xs.length) (hm:xs.length<=1000) (hcell:∀i (hi:i < xs.length),w.cell? ⟨g,i,none⟩=some (.string xs[i])) (hgl:g < w.heap.size):
 Calls prog 99 #[.pointer (some ⟨c,0,none⟩),.slice (some ⟨g,0,none⟩) xs.length cap] w λe w'=>∃x:ByteArray,e= .returned (.string x)/\x∈xs/\qA w' c/\Keeps c w w':=by
 have HC:=Hq hc;have HL:=Hq hcell;clear hc hcell;go_in
 go_wp2_with fail;refine(gM c _ _ HC Aaa Aaa).mono ?_;rintro e w1 ⟨x,rfl,hx0,hx1,hc1,hk1⟩;obtain⟨k,rfl⟩:=Int.eq_ofNat_of_zero_le hx0;have hk:k < xs.length:=Aaa
 have hcell1:w1.cell? ⟨g,k,none⟩=some (.string xs[k]):=(World.cell?_of_block (w:=w) (hk1.block g hgl hne)).trans (HL k hk);exact ahP
theorem aen:(prog.info? 5).map (λi=>(i.zero,i.size,i.bytes))=some (some (.int .u8 0),1,1):=Aab
theorem Keeps.grown {w:World} (h:Keeps c w w'):w.grownBy w' (some c):=⟨h.os,h.tape,h.output,h.size,λk hk hne=>h.block k hk (λe=>hne Aao)⟩
theorem XQ {w:World} (h:w.ownsRow base e 1 v n xs) (hk:Keeps c w w') (hc:c < base):w'.ownsRow base e 1 v n xs:=by
 apply h.kept hk.grown
 cases hv:v.ownBlock with
 |none=>exact .inl rfl
 |some k=>
  right
  intro e'
  have:=(h.lt k hv).1
  cases e'
  omega
theorem Me {w:World} (hk:Keeps c w wr) (hown:wr.ownsRow w.heap.size e 1 v n xs) (hg:(wr.alloc o).grownBy w1 v.ownBlock):Keeps c w w1:=by
 refine⟨hg.os.trans hk.os,hg.tape.trans hk.tape,hg.output.trans hk.output,by have h1:=hg.size;have h2:=hk.size;simp at h1;omega,λk hkl hne=>?_⟩;have hs:=hk.size;rw [hg.block k Aaf (λe'=>by have:=(hown.lt k e'.symm).1;omega),Below.heap_alloc _ _ _ Aaa];exact hk.block k hkl hne
theorem SL {w:World} (hc:qA wr c) (hcl:c < w.heap.size) (hs:w.heap.size<=wr.heap.size) (hown:wr.ownsRow w.heap.size e 1 v n xs) (hg:(wr.alloc o).grownBy w1 v.ownBlock):qA w1 c:=by
 refine hc.below (B:=w.heap.size) ?_ hcl;exact((Below.refl _ _).alloc hs o).grown hg Aaf (λk hk=>(hown.lt k hk).1)
theorem ab2 (c:Nat) (n:Nat) (w:World) (hc:qA w c) (hm:n<=2000):
 Calls prog 180 #[.pointer (some ⟨c,0,none⟩),.int .i64 n] w λe w'=>∃t:ByteArray,e= .returned (.string t)/\t.size=n/\qA w' c/\Keeps c w w':=by
 obtain⟨i0,hi,hz0,hz1,hz2⟩:=info_parts aen;have hcl:=hc.lt;have HC:=Hq hc;clear hc;go_in
 go_wp2
 go_loopw [5,6] (λv i wr=>∃(k:Nat) (l:List UInt8),k<=n/\l.length=k/\i= .int .i64 k/\wr.ownsRow w.heap.size 5 1 v l.length (l.map bv)/\qA wr c/\Keeps c w wr) (λ_ i _=>n - (intOf i).toNat)
 case atStart=>exact⟨0,[],Nat.zero_le _,rfl,rfl,World.ownsRow_lit _ #[] 0 (Nat.le_refl _) Aae rfl,HC.keep_below ((Below.refl _ _).alloc (Nat.le_refl _) _),Keeps.of_below ((Below.refl _ _).alloc (Nat.le_refl _) _)⟩
 case round=>
  obtain⟨k,l,hk,hl,rfl,hown,hcr,hkr⟩:=hrel;have HL:=Hq hl;have HCR:=Hq hcr;have HKR:=Hq hkr;have HO:=Hq hown;have hll:l.length<=2000:=Aaa
  clear hl hcr hkr hown;by_cases hlt:k < n
  .go_wp2_with fail;refine(gM c 256 _ HCR Aaa Aaa).mono ?_;rintro e w1 ⟨x,rfl,hx0,hx1,hc1,hk1⟩;obtain⟨b,hb⟩:∃b:UInt8,x=b.toNat:=⟨UInt8.ofNat x.toNat,by rw [Mth.toNat_byte _ Aaa];omega⟩;have hown1:=XQ HO hk1 hcl;have xE:=Hq hc1;have Jq:=Hq (HKR.trans hk1);have hsz1:w.heap.size<=w1.heap.size:=Jq.size;have HB:=Hq hb;clear hc1 hk1 hb;go_wp2_with (at_builtin;refine wpList_append_own _ rfl _ _ 22 rfl w.heap.size 5 i0 (.int .u8 0) 1 1 underlying22 hi hz0 hz1 hz2 rfl Aae _ _ _ rfl (hown1.alloc _) ⟨w1.heap.size,0,none⟩ 1 1 [.int .u8 x] rfl rfl ?c1 ?c2 ?c3 ?c4 ?c5 ?_)
   case c1=>exact cell_one_new _ _ _
   case c2=>intro u hu;simp at hu;subst hu;rfl
   case c3=>unfold maxLen;omega
   case c4=>omega
   case c5=>simp;omega
   intro v' w2 hown' hgrow _;have qY:=Hq (Me Jq hown1 hgrow);have oI:=Hq (SL xE hcl hsz1 hown1 hgrow);have HO2:=Hq (FZ b HB hown');clear hown' hgrow hown1;go_wp2
   go_roundw
   case rel=>exact⟨k+1,l++[b],Aaa,by have:=ah HL;simp;omega,Aai,HO2,oI,qY⟩
   case measure=>simp[intOf];omega
  .have abt:=E9 22 9 underlying22 underlying5 underlying9 HO;go_wp2
   go_ret;exact⟨_,rfl,by rw [size_of_list,ah HL];omega,HCR,HKR⟩
theorem axV (a:Option Addr) (len cap:Nat) (w:World) (h:len<=1048576):Calls prog 6 #[.slice a len cap] w λe w'=>e= .returned (.bool false)/\w=w':=by
 exact ah4
theorem ajf (a:Option Addr) (len cap:Nat) (w:World) (h:1048576 < len):Calls prog 6 #[.slice a len cap] w λe w'=>e= .returned (.bool true)/\w=w':=by
 exact ah4
end Go.Proofs.YtacgbldlonoaaaaGreatDoor
