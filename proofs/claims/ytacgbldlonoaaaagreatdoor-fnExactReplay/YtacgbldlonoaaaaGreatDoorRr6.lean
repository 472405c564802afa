/- Parts. -/
import Derived.Test.YtacgbldlonoaaaaGreatDoorRr3
namespace Go.Proofs.YtacgbldlonoaaaaGreatDoor
set_option maxHeartbeats 1000000
open Go.RowKit
def bv (c:UInt8):Value:= .int .u8 (c.toNat:Int)
theorem PK {P:Program} {w:World} {base:Nat} {e:TypeId} {v:Value} {l:List UInt8} (src dst:TypeId) (hs:P.underlying src=some (.slice e)) (he:P.underlying e=some (.int .u8)) (hd:P.underlying dst=some .string)
 (h:w.ownsRow base e 1 v l.length (l.map bv)):(convert src dst v).run P w= .ok (.string ⟨l.toArray⟩) w:=by
 rcases h.2 with⟨rfl,hn⟩|⟨g,cap,cur,rfl,_⟩
 .rw [run_convert_bytes_string w src dst e none 0 0 hs he hd];have:l=[]:=List.length_eq_zero_iff.1 hn;subst this;rfl
 .apply run_convert_bytes_back w src dst e _ cap l hs he hd
  intro j hj;exact h.cells rfl j (bv l[j]) (by simp[hj])
theorem Nl {w:World} {base:Nat} {e:TypeId} {v:Value} {l:List UInt8} {z:Int} (b:UInt8) (hz:z=b.toNat) (h:w.ownsRow base e 1 v (l.length+1) (l.map bv++[.int .u8 z])):
 w.ownsRow base e 1 v (l++[b]).length ((l++[b]).map bv):=by
 subst hz;have e1:(l++[b]).map bv=l.map bv++[.int .u8 (b.toNat:Int)]:=by simp[bv]
 rw [e1];simpa using h
theorem below_append {w wr w1:World} {e:TypeId} {v:Value} {n:Nat} {xs:List Value} {o:Obj} (hb:aX w wr) (hown:wr.ownsRow w.heap.size e 1 v n xs) (hg:(wr.alloc o).grownBy w1 v.ownBlock):aX w w1:=
 (hb.alloc (by have:=hb.size;omega) o).grown hg (by have:=hb.size;simp;omega) (λk hk=>(hown.lt k hk).1)
set_option maxRecDepth 100000
theorem infoByte:(Tryz.prog.info? 5).map (λi=>(i.zero,i.size,i.bytes))=some (some (.int .u8 0),1,1):=Aab
theorem sizeByte:(Tryz.prog.info? 5).map (·.size)=some 1:=Aab
theorem cellsByte:Tryz.prog.cellsOf 5=1:=Aab
theorem EO (w:World):Calls Tryz.prog 161 #[.string ByteArray.empty] w λe w'=>e= .returned (.string ByteArray.empty)/\w=w':=by
 go_enter Tryz.func161,Tryz.ntmps161
 go_wp2
 go_ret;exact⟨rfl,rfl⟩
theorem Qm (n:Nat) (hn:n<=281474976710656):∃M:Array Value,M.size=n/\∀W:World,(Instr.makeSlice 22 (.int .i64 (n:Int)) (.int .i64 (n:Int))).run Tryz.prog W= .ok (.slice (some ⟨W.heap.size,0,none⟩) n n) (W.alloc (.cells M 5)):=by
 obtain⟨i0,hi,hz0,hz1,hz2⟩:=info_parts infoByte;refine⟨madeCells (Value.int .u8 0).cells (((n:Nat):Int).toNat*i0.size),by rw [size_madeCells,hz1];simp,λW=>?_⟩;simpa using run_make (P:=Tryz.prog) W 22 5 i0 (.int .u8 0) Tryz.underlying22 hi hz0 .i64 .i64 (n:Int) (n:Int) Aaa Aaa (by rw [hz2];omega) Aaa
theorem XH (w:World) (s:ByteArray) (M:Array Value) (hM:M.size=s.size):∃Y:Array Value,Y.toList=s.data.toList.map bv/\
 (Builtin.copy_ #[22,9] 3 #[.slice (some ⟨w.heap.size,0,none⟩) s.size s.size,.string s]).run Tryz.prog (w.alloc (.cells M 5))= .ok (goInt s.size) ((w.alloc (.cells M 5)).setRow w.heap.size Y):=by
 have h:=Lib.run_copy_row_string (P:=Tryz.prog) (w.alloc (.cells M 5)) 22 9 3 5 w.heap.size 0 s.size s.size s M 5 Tryz.underlying22 sizeByte (heap_alloc_new w _) (Nat.le_refl _) Aaa;refine⟨_,?_,h⟩;rw [List.toList_toArray,List.take_zero,List.nil_append,List.drop_of_length_le (by rw [Array.length_toList];omega),List.append_nil];rfl
theorem aaU (s:ByteArray) (w:World) (h0:0 < s.size) (hlim:s.size<=281474976710656):
 Calls Tryz.prog 161 #[.string s] w (eP w (.string s)):=by
 obtain⟨M,hMs,hmk⟩:=Qm s.size hlim;obtain⟨Y,hY,hcp⟩:=XH w s M hMs;have hYs:Y.size=s.size:=by rw [<-Array.length_toList,hY];simp
 have hg:((w.alloc (.cells M 5)).setRow w.heap.size Y).heap[w.heap.size]?=some (.cells Y 5 (0,0)):=setRow_heap _ _ M _ 5 (0,0) (heap_alloc_new w _)
 have hus:=Lib.run_unsafeString_row (P:=Tryz.prog) ((w.alloc (.cells M 5)).setRow w.heap.size Y) 217 3 9 5 Tryz.underlying217 cellsByte w.heap.size Y.size (by unfold World.shape?;rw [hg]) s.data.toList
  (λe=>by have:=bn s;rw [e] at this;simp at this;omega) (by rw [bn];omega) (by rw [bn];omega)
  (λj x hx=>Lib.cells_of_row hg Y.size j _ (by rw [List.take_of_length_le (by rw [Array.length_toList];exact Nat.le_refl _),hY];simp[bv,hx]))
 rw [bn,Lib.mk_data] at hus;have hne:((s.size:Int) == 0)=false:=beq_eq_false_iff_ne.2 Aaa;have hlt:(0:Int) < (s.size:Int):=Aaa
 clear hY hMs hg;go_enter Tryz.func161,Tryz.ntmps161
 go_wp2
 go_ret;exact⟨rfl,Lib.below_freeze (below_setRow ((Below.refl _ w).alloc (Nat.le_refl _) _) (Nat.le_refl _) Y) (p:=⟨w.heap.size,0,none⟩) (Nat.le_refl _) _⟩
theorem clone (s:ByteArray) (w:World) (hlim:s.size<=281474976710656):
 Calls Tryz.prog 102 #[.string s] w (eP w (.string s)):=by
 by_cases h0:0 < s.size
 .go_enter Tryz.func102,Tryz.ntmps102
  go_wp2_with (go_at_call 161;refine(aaU s _ h0 hlim).mono ?_;rintro e w' ⟨rfl,hbel⟩)
  go_ret;exact⟨rfl,hbel⟩
 .obtain rfl:=eq_empty s Aaa;go_enter Tryz.func102,Tryz.ntmps102
  go_wp2_with (go_at_call 161;refine(EO _).mono ?_;rintro e w' ⟨rfl,rfl⟩)
  go_ret;exact⟨rfl,Below.refl _ _⟩
open Go.Lib (decDigits itoa)
open Go.Lib (decDigits)
theorem agi:(Tryz.prog.info? 5).map (λi=>(i.zero,i.size,i.bytes))=some (some (.int .u8 0),1,1):=Aab
theorem tK (n:Int) (w:World) (h:n < 0\/4000000000 < n):
 Calls Tryz.prog 213 #[.int .i64 n] w λe w'=>e= .returned (.string ByteArray.empty)/\w=w':=by
 go_enter Tryz.func213,Tryz.ntmps213
 go_wp2_with (go_at_call 63;refine(qM _ _ _ _ h).mono ?_;rintro e w' ⟨rfl,rfl⟩)
 go_ret;exact⟨rfl,rfl⟩
theorem En (n:Nat) (w:World) (h:n<=4000000000):
 Calls Tryz.prog 213 #[.int .i64 n] w (eP w (.string ⟨(Mth.put n).toArray⟩)):=by
 obtain⟨i0,hi,hz0,hz1,hz2⟩:=info_parts agi;go_enter Tryz.func213,Tryz.ntmps213
 go_wp2_with (go_at_call 63;refine(oh _ _ _ _ ?_ ?_).mono ?_;omega;omega;rintro e w' ⟨rfl,rfl⟩)
 go_loopw [0,3] (λm v wr=>∃f cur pre,f<=5/\cur<=4000000000/\cur < 128 ^ (f+1)/\pre.length+f=5/\pre++Mth.putF f cur=Mth.put n/\m= .int .i64 (cur:Nat)/\wr.ownsRow w.heap.size 5 1 v pre.length (pre.map bv)/\aX w wr) (λm _ _=>(intOf m).toNat)
 case atStart=>exact⟨5,n,[],Aaa,Aaa,Aaa,rfl,rfl,rfl,World.ownsRow_lit _ #[] 0 (Nat.le_refl _) Aae rfl,(Below.refl _ _).alloc (Nat.le_refl _) _⟩
 case round=>
  obtain⟨f,cur,pre,hf,hc9,hcur,hpf,hput,rfl,hown,hbel⟩:=hrel;have HP:=Hq hput;clear hput;by_cases hbig:cur<=127
  .have HE:=Hq (Mth.put_end n f cur pre hbig HP);go_wp2_with (at_builtin;refine wpList_append_own _ rfl _ _ 22 rfl w.heap.size 5 i0 (.int .u8 0) 1 1 Tryz.underlying22 hi hz0 hz1 hz2 rfl Aae _ _ _ rfl (hown.alloc _) ⟨wr.heap.size,0,none⟩ 1 1 [.int .u8 (cur:Int)] rfl rfl ?c1 ?c2 ?c3 ?c4 ?c5 ?_)
   case c1=>exact cell_one_new _ _ _
   case c2=>intro u hu;simp at hu;subst hu;rfl
   case c3=>unfold maxLen;omega
   case c4=>omega
   case c5=>have:=hbel.size;simp;omega
   intro v' w1 hown' hgrow _;have Mc:=below_append hbel hown hgrow;have hown2:=Nl (UInt8.ofNat cur) (by rw [Mth.toNat_byte _ Aaa]) hown';rw [ah HE] at hown2;have aeK:=PK 22 9 Tryz.underlying22 Tryz.underlying5 Tryz.underlying9 hown2;clear hown' hgrow hown hown2 hbel HE;go_wp2
   go_ret;exact⟨rfl,Mc⟩
  .obtain⟨f',rfl,hc2,hl2,hp2⟩:=Mth.put_round n f cur pre hcur hbig hpf HP;have yZ:=Hq hp2;clear hp2 HP;go_wp2_with (at_builtin;refine wpList_append_own _ rfl _ _ 22 rfl w.heap.size 5 i0 (.int .u8 0) 1 1 Tryz.underlying22 hi hz0 hz1 hz2 rfl Aae _ _ _ rfl (hown.alloc _) ⟨wr.heap.size,0,none⟩ 1 1 [.int .u8 (128+(cur:Int) % 128)] rfl rfl ?d1 ?d2 ?d3 ?d4 ?d5 ?_)
   case d1=>exact cell_one_new _ _ _
   case d2=>intro u hu;simp at hu;subst hu;rfl
   case d3=>unfold maxLen;omega
   case d4=>omega
   case d5=>have:=hbel.size;simp;omega
   intro v' w1 hown' hgrow _;have Mc:=below_append hbel hown hgrow;have hown2:=Nl (UInt8.ofNat (128+cur % 128)) (by rw [Mth.toNat_byte _ Aaa];omega) hown';clear hown' hgrow hown hbel;go_wp2
   go_roundw
   case rel=>exact⟨f',cur / 128,_,Aaa,Aaa,hc2,hl2,yZ,Aai,hown2,Mc⟩
   case measure=>simp[intOf];omega
theorem uM (n:Int) (w:World) (h0:0<=n) (h:n<=4000000000):
 Calls Tryz.prog 213 #[.int .i64 n] w (eP w (.string ⟨(Mth.put n.toNat).toArray⟩)):=by
 obtain⟨m,rfl⟩:=Int.eq_ofNat_of_zero_le h0;exact En m w Aaa
def qg (s:ByteArray):ByteArray:=⟨(Mth.put s.size++s.data.toList).toArray⟩
theorem aaS (s:ByteArray):(⟨(Mth.put s.size).toArray⟩:ByteArray)++s=qg s:=by
 apply ByteArray.ext
 simp[qg]
theorem Aj (s:ByteArray) (w:World) (h:1000 < s.size):
 Calls Tryz.prog 179 #[.string s] w λe w'=>e= .returned (.string ByteArray.empty)/\w=w':=by
 go_enter Tryz.func179,Tryz.ntmps179
 go_wp2
 go_ret;exact⟨rfl,rfl⟩
theorem Ov (s:ByteArray) (w:World) (h:s.size<=1000):
 Calls Tryz.prog 179 #[.string s] w (eP w (.string (qg s))):=by
 have hl:=Mth.put_length s.size;have hadd:=λw1=>run_string_add_sum (P:=Tryz.prog) w1 ⟨(Mth.put s.size).toArray⟩ s (by rw [size_of_list];omega)
 simp only[aaS] at hadd;go_enter Tryz.func179,Tryz.ntmps179
 go_wp2_with (go_at_call 213;refine(En s.size _ Aaa).mono ?_;rintro e w' ⟨rfl,hbel⟩)
 go_ret;exact⟨rfl,by assumption⟩
def lH (n:Int):ByteArray:=if 0<=n/\n<=4000000000 then⟨(Mth.put n.toNat).toArray⟩ else ByteArray.empty
theorem kK (n:Int) (w:World):Calls Tryz.prog 213 #[.int .i64 n] w (eP w (.string (lH n))):=by
 unfold lH;by_cases h:0<=n/\n<=4000000000
 .rw [if_pos h];exact uM n w h.1 h.2
 .rw [if_neg h];exact(tK n w Aaa).mono λe w' ⟨he,hw⟩=>⟨he,hw▸Below.refl _ _⟩
def nJ (s:ByteArray):ByteArray:=if s.size<=1000 then qg s else ByteArray.empty
theorem uN (s:ByteArray) (w:World):Calls Tryz.prog 179 #[.string s] w (eP w (.string (nJ s))):=by
 unfold nJ;by_cases h:s.size<=1000
 .rw [if_pos h];exact Ov s w h
 .rw [if_neg h];exact(Aj s w Aaa).mono λe w' ⟨he,hw⟩=>⟨he,hw▸Below.refl _ _⟩
theorem mG (n:Int):(lH n).size<=6:=by
 unfold lH;split
 .rw [size_of_list];exact Mth.put_length _
 .decide
theorem Ae (x:ByteArray):(nJ x).size<=1006:=by
 unfold nJ;split
 .unfold qg;rw [size_of_list,List.length_append,bn];have:=Mth.put_length x.size;omega
 .decide
end Go.Proofs.YtacgbldlonoaaaaGreatDoor
