/- Parts. -/
import Derived.Test.YtbolgdleijjgfaaGreatDoorRs4
import Derived.Test.YtbolgdleijjgfaaGreatDoorRs2
namespace Go.Proofs.YtbolgdleijjgfaaGreatDoor
open Go.Proofs.Tryz
set_option maxHeartbeats 1000000
open Go.RowKit
open Mth
variable (s:ByteArray) (w:World) {e:TypeId} {v:Value} {base:Nat} {l:List UInt8}
def bv (c:UInt8):Value:= .int .u8 (c.toNat:Int)
theorem TB {P:Program} {w:World} (src dst:TypeId) (hs:P.underlying src=some (.slice e)) (he:P.underlying e=some (.int .u8)) (hd:P.underlying dst=some .string) (h:w.ownsRow base e 1 v l.length (l.map bv)):(convert src dst v).run P w= .ok (.string ⟨l.toArray⟩) w:=by
 rcases h.2 with⟨rfl,hn⟩|⟨g,cap,cur,rfl,_⟩
 .rw [run_convert_bytes_string w src dst e none 0 0 hs he hd];have:l=[]:=List.length_eq_zero_iff.1 hn;subst this;rfl
 .apply aGn w src dst e _ cap l hs he hd
  intro j hj;exact h.cells rfl j (bv l[j]) (by simp[hj])
theorem QA {w:World} {z:Int} (b:UInt8) (hz:z=b.toNat) (h:w.ownsRow base e 1 v (l.length+1) (l.map bv++[.int .u8 z])):
 w.ownsRow base e 1 v (l++[b]).length ((l++[b]).map bv):=by
 subst hz;have e1:(l++[b]).map bv=l.map bv++[.int .u8 (b.toNat:Int)]:=by simp[bv]
 rw [e1];simpa using h
theorem below_append {w wr w1:World} {n:Nat} {xs:List Value} {o:Obj} (hb:aH w wr) (hown:wr.ownsRow w.heap.size e 1 v n xs) (hg:(wr.alloc o).grownBy w1 v.ownBlock):aH w w1:=
 (hb.alloc (by have:=hb.size;omega) o).grown hg (by have:=hb.size;simp;omega) (λk hk=>(hown.lt k hk).1)
set_option maxRecDepth 100000
theorem infoByte:(prog.info? 5).map (λi=>(i.zero,i.size,i.bytes))=some (some (.int .u8 0),1,1):=Aab
theorem sizeByte:(prog.info? 5).map (·.size)=some 1:=Aab
theorem cellsByte:prog.cellsOf 5=1:=Aab
theorem Iz (w:World):Calls prog 110 #[.string ByteArray.empty] w λe w'=>e= .returned (.string ByteArray.empty)/\w=w':=by
 go_in
 go_wp2
 go_ret;exact⟨rfl,rfl⟩
theorem Un (n:Nat) (hn:n<=281474976710656):∃M:Array Value,M.size=n/\∀W:World,(Instr.makeSlice 127 (.int .i64 (n:Int)) (.int .i64 (n:Int))).run prog W= .ok (.slice (some ⟨W.heap.size,0,none⟩) n n) (W.alloc (.cells M 5)):=by
 obtain⟨i0,hi,hz0,hz1,hz2⟩:=aFm infoByte;refine⟨madeCells (Value.int .u8 0).cells (((n:Nat):Int).toNat*i0.size),by rw [size_madeCells,hz1];simp,λW=>?_⟩;simpa using run_make (P:=prog) W 127 5 i0 (.int .u8 0) underlying127 hi hz0 .i64 .i64 (n:Int) (n:Int) Aaa Aaa Abd Aaa
theorem abA (w:World) (s:ByteArray) (M:Array Value) (hM:M.size=s.size):∃Y:Array Value,Y.toList=s.data.toList.map bv/\
 (Builtin.copy_ #[127,9] 3 #[.slice (some ⟨w.heap.size,0,none⟩) s.size s.size,.string s]).run prog (w.alloc (.cells M 5))= .ok (goInt s.size) ((w.alloc (.cells M 5)).setRow w.heap.size Y):=by
 have h:=Lib.run_copy_row_string (P:=prog) (w.alloc (.cells M 5)) 127 9 3 5 w.heap.size 0 s.size s.size s M 5 underlying127 sizeByte (aEK w _) (aEM _) Aaa;refine⟨_,?_,h⟩;rw [List.toList_toArray,aGA,aF0,List.drop_of_length_le (by rw [aFu];omega),aFZ];rfl
theorem ae1 (h0:0 < s.size) (hlim:s.size<=281474976710656):
 Calls prog 110 #[.string s] w (dM w (.string s)):=by
 obtain⟨M,hMs,hmk⟩:=Un s.size hlim;obtain⟨Y,hY,hcp⟩:=abA w s M hMs;have hYs:Y.size=s.size:=by rw [<-aFu,hY];simp
 have hg:((w.alloc (.cells M 5)).setRow w.heap.size Y).heap[w.heap.size]?=some (.cells Y 5 (0,0)):=setRow_heap _ _ M _ 5 (0,0) (aEK w _)
 have hus:=Lib.run_unsafeString_row (P:=prog) ((w.alloc (.cells M 5)).setRow w.heap.size Y) 188 3 9 5 underlying188 cellsByte w.heap.size Y.size (by unfold World.shape?;rw [hg]) s.data.toList
  (λe=>by have:=aZ s;rw [e] at this;simp at this;omega) (by rw [aZ];omega) (by rw [aZ];omega)
  (λj x hx=>Lib.cells_of_row hg Y.size j _ (by rw [aGh (by rw [aFu];exact aEM _),hY];simp[bv,hx]))
 rw [aZ,Lib.mk_data] at hus;have hne:((s.size:Int) == 0)=false:=aGm.2 Aaa;have hlt:(0:Int) < (s.size:Int):=Aaa
 clear hY hMs hg;go_in
 go_wp2
 go_ret;exact⟨rfl,Lib.below_freeze (below_setRow ((aEY _ w).alloc (aEM _) _) (aEM _) Y) (p:=⟨w.heap.size,0,none⟩) (aEM _) _⟩
theorem clone (hlim:s.size<=281474976710656):
 Calls prog 59 #[.string s] w (dM w (.string s)):=by
 by_cases h0:0 < s.size
 .go_in
  go_wp2_with (go_at_call 110;refine(ae1 s _ h0 hlim).mono ?_;rintro e w' ⟨rfl,hbel⟩)
  go_ret;exact⟨rfl,hbel⟩
 .obtain rfl:=eq_empty s Aaa;go_in
  go_wp2_with (go_at_call 110;refine(Iz _).mono ?_;rintro e w' ⟨rfl,rfl⟩)
  go_ret;exact⟨rfl,aEY _ _⟩
open Go.Lib (decDigits itoa)
def nH (a:Nat):List UInt8:=if a=0 then[] else decDigits a
theorem left_step (a:Nat) (l t:List UInt8) (h0:a≠0) (h:nH a++l=t):nH (a / 10)++(UInt8.ofNat (48+a % 10)::l)=t:=by
 unfold nH at *;rw [aEX h0] at h;by_cases hs:a < 10
 .have e1:a / 10=0:=Aaa
  have e2:a % 10=a:=Aaa
  rw [Mth.digits_small a hs] at h;rw [e1,e2,aE7 rfl];simpa using h
 .rw [Mth.digits_big a hs] at h;rw [aEX Aaa,<-h];simp
open Go.Lib (decDigits)
def mark (k:Nat):ByteArray:=⟨(109::decDigits k).toArray⟩
theorem one_add (b:UInt8) (l:List UInt8):(ByteArray.mk #[b])++⟨l.toArray⟩=⟨(b::l).toArray⟩:=by
 apply aF3;simp
theorem abz (w:World) (z:Int) (b:UInt8) (hz:z=b.toNat) (cap:Nat):(convert 127 9 (.slice (some ⟨w.heap.size,0,none⟩) 1 cap)).run prog (w.alloc (.cells #[.int .u8 z] 5))= .ok (.string ⟨#[b]⟩) (w.alloc (.cells #[.int .u8 z] 5)):=by
 subst hz
 have:=aGn (P:=prog) (w.alloc (.cells #[.int .u8 (b.toNat:Int)] 5)) 127 9 5 ⟨w.heap.size,0,none⟩ cap [b] underlying127 underlying5 underlying9 (λj hj=>by
  have:j=0:=Abe
  subst this;simp[Addr.add])
 simpa using this
theorem acU (k:Nat) (w:World) (h0:0 < k) (hk:(k:Int)<=9223372036854775807):
 Calls prog 35 #[.int .i64 k] w (dM w (.string (mark k))):=by
 have hlen:(decDigits k).length<=21:=by have:=Lib.itoa_length_le k Aaa hk;rw [Lib.itoa,aEX Aaa] at this;simpa using this
 have hpos:decide ((k:Int)<=0)=false:=Aah
 go_in
 go_wp2
 go_loopw [0,3] (λm o wr=>∃(a:Nat) (l:List UInt8),a<=k/\m= .int .i64 a/\o= .string ⟨l.toArray⟩/\nH a++l=decDigits k/\aH w wr) (λm _ _=>(intOf m).toNat)
 case atStart=>exact⟨k,[],aEM _,rfl,rfl,by unfold nH;rw [aEX Aaa];simp,aEY _ _⟩
 case round=>
  obtain⟨a,l,ha,rfl,rfl,hl,hbel⟩:=hrel;have HL:=Hq hl;have hll:l.length<=21:=by have:=congrArg List.length hl;rw [aER] at this;omega
  clear hl;by_cases hz:a=0
  .subst hz;have HE:=Hq (show l=decDigits k by have:=ah HL;simpa [nH] using this);have hA:=Hq (one_add 109 l);clear HL;go_wp2
   go_ret;exact⟨UA (by unfold mark;rw [<-ah HE];exact hA),hbel⟩
  .have HS:=Hq (left_step a l _ hz HL);obtain⟨b,hb⟩:∃b,b=UInt8.ofNat (48+a % 10):=⟨_,rfl⟩;rw [<-hb] at HS;have hA:=Hq (one_add b l);have abX:=abz wr (48+(a:Int) % 10) b (by rw [hb,Mth.toNat_byte _ Aaa];omega) 1;clear HL hb;go_wp2
   go_roundw
   case rel=>exact⟨a / 10,_,Aaa,Aaf,by rw [ah hA],HS,by first|exact hbel.alloc (by have:=hbel.size;omega) _|exact(hbel.alloc (by have:=hbel.size;omega) _).drew⟩
   case measure=>simp[intOf];omega
theorem ala:(prog.info? 5).map (λi=>(i.zero,i.size,i.bytes))=some (some (.int .u8 0),1,1):=Aab
theorem vO (n:Int) (w:World) (h:n < 0\/4000000000 < n):
 Calls prog 147 #[.int .i64 n] w λe w'=>e= .returned (.string ByteArray.empty)/\w=w':=by
 go_in
 go_wp2_with (go_at_call 47;refine(qC _ _ _ _ h).mono ?_;rintro e w' ⟨rfl,rfl⟩)
 go_ret;exact⟨rfl,rfl⟩
theorem GZ (n:Nat) (w:World) (h:n<=4000000000):
 Calls prog 147 #[.int .i64 n] w (dM w (.string ⟨(Mth.put n).toArray⟩)):=by
 obtain⟨i0,hi,hz0,hz1,hz2⟩:=aFm ala;go_in
 go_wp2_with (go_at_call 47;refine(nG _ _ _ _ ?_ ?_).mono ?_;omega;omega;rintro e w' ⟨rfl,rfl⟩)
 go_loopw [0,3] (λm v wr=>∃f cur pre,f<=5/\cur<=4000000000/\cur < 128 ^ (f+1)/\pre.length+f=5/\pre++Mth.putF f cur=Mth.put n/\m= .int .i64 (cur:Nat)/\wr.ownsRow w.heap.size 5 1 v pre.length (pre.map bv)/\aH w wr) (λm _ _=>(intOf m).toNat)
 case atStart=>exact⟨5,n,[],Aaa,Aaa,Aaa,rfl,rfl,rfl,aFw _ #[] 0 (aEM _) Aae rfl,(aEY _ _).alloc (aEM _) _⟩
 case round=>
  obtain⟨f,cur,pre,hf,hc9,hcur,hpf,hput,rfl,hown,hbel⟩:=hrel;have HP:=Hq hput;clear hput;by_cases hbig:cur<=127
  .have HE:=Hq (Mth.put_end n f cur pre hbig HP);go_wp2_with (at_builtin;refine aFG _ rfl _ _ 127 rfl w.heap.size 5 i0 (.int .u8 0) 1 1 underlying127 hi hz0 hz1 hz2 rfl Aae _ _ _ rfl (hown.alloc _) ⟨wr.heap.size,0,none⟩ 1 1 [.int .u8 (cur:Int)] rfl rfl ?c1 ?c2 ?c3 ?c4 ?c5 ?_)
   case c1=>exact cell_one_new _ _ _
   case c2=>intro u hu;simp at hu;subst hu;rfl
   case c3=>unfold maxLen;omega
   case c4=>omega
   case c5=>have:=hbel.size;simp;omega
   intro v' w1 hown' hgrow _;have Pw:=below_append hbel hown hgrow;have hown2:=QA (UInt8.ofNat cur) (by rw [Mth.toNat_byte _ Aaa]) hown';rw [ah HE] at hown2;have abX:=TB 127 9 underlying127 underlying5 underlying9 hown2;clear hown' hgrow hown hown2 hbel HE;go_wp2
   go_ret;exact⟨rfl,Pw⟩
  .obtain⟨f',rfl,hc2,hl2,hp2⟩:=Mth.put_round n f cur pre hcur hbig hpf HP;have qY:=Hq hp2;clear hp2 HP;go_wp2_with (at_builtin;refine aFG _ rfl _ _ 127 rfl w.heap.size 5 i0 (.int .u8 0) 1 1 underlying127 hi hz0 hz1 hz2 rfl Aae _ _ _ rfl (hown.alloc _) ⟨wr.heap.size,0,none⟩ 1 1 [.int .u8 (128+(cur:Int) % 128)] rfl rfl ?d1 ?d2 ?d3 ?d4 ?d5 ?_)
   case d1=>exact cell_one_new _ _ _
   case d2=>intro u hu;simp at hu;subst hu;rfl
   case d3=>unfold maxLen;omega
   case d4=>omega
   case d5=>have:=hbel.size;simp;omega
   intro v' w1 hown' hgrow _;have Pw:=below_append hbel hown hgrow;have hown2:=QA (UInt8.ofNat (128+cur % 128)) (by rw [Mth.toNat_byte _ Aaa];omega) hown';clear hown' hgrow hown hbel;go_wp2
   go_roundw
   case rel=>exact⟨f',cur / 128,_,Aaa,Aaa,hc2,hl2,qY,Aaf,hown2,Pw⟩
   case measure=>simp[intOf];omega
theorem wU (n:Int) (w:World) (h0:0<=n) (h:n<=4000000000):
 Calls prog 147 #[.int .i64 n] w (dM w (.string ⟨(Mth.put n.toNat).toArray⟩)):=by
 obtain⟨m,rfl⟩:=Int.eq_ofNat_of_zero_le h0;exact GZ m w Aaa
def rO (s:ByteArray):ByteArray:=⟨(Mth.put s.size++s.data.toList).toArray⟩
theorem aeX (s:ByteArray):(⟨(Mth.put s.size).toArray⟩:ByteArray)++s=rO s:=by
 apply aF3
 simp[rO]
theorem CQ (h:1000 < s.size):
 Calls prog 151 #[.string s] w λe w'=>e= .returned (.string ByteArray.empty)/\w=w':=by
 go_in
 go_wp2
 go_ret;exact⟨rfl,rfl⟩
theorem Rp (h:s.size<=1000):
 Calls prog 151 #[.string s] w (dM w (.string (rO s))):=by
 have hl:=Mth.put_length s.size;have hadd:=λw1=>aFT (P:=prog) w1 ⟨(Mth.put s.size).toArray⟩ s (by rw [size_of_list];omega)
 simp only[aeX] at hadd;go_in
 go_wp2_with (go_at_call 147;refine(GZ s.size _ Aaa).mono ?_;rintro e w' ⟨rfl,hbel⟩)
 go_ret;exact⟨rfl,by assumption⟩
def mq (n:Int):ByteArray:=if 0<=n/\n<=4000000000 then⟨(Mth.put n.toNat).toArray⟩ else ByteArray.empty
theorem lI (n:Int) (w:World):Calls prog 147 #[.int .i64 n] w (dM w (.string (mq n))):=by
 unfold mq;by_cases h:0<=n/\n<=4000000000
 .rw [aE7 h];exact wU n w h.1 h.2
 .rw [aEX h];exact(vO n w Aaa).mono λe w' ⟨he,hw⟩=>⟨he,hw▸aEY _ _⟩
def oN (s:ByteArray):ByteArray:=if s.size<=1000 then rO s else ByteArray.empty
theorem wV:Calls prog 151 #[.string s] w (dM w (.string (oN s))):=by
 unfold oN;by_cases h:s.size<=1000
 .rw [aE7 h];exact Rp s w h
 .rw [aEX h];exact(CQ s w Aaa).mono λe w' ⟨he,hw⟩=>⟨he,hw▸aEY _ _⟩
theorem nL (n:Int):(mq n).size<=6:=by
 unfold mq;split
 .rw [size_of_list];exact Mth.put_length _
 .decide
theorem CF (x:ByteArray):(oN x).size<=1006:=by
 unfold oN;split
 .unfold rO;rw [size_of_list,aER,aZ];have:=Mth.put_length x.size;omega
 .decide
end Go.Proofs.YtbolgdleijjgfaaGreatDoor
