/- Parts. -/
import Derived.Test.YtdlokncalhopoaaGreatRows
import Derived.WalkKit
import Derived.WalkSpells
import Derived.ShutString
import Derived.OneCell
import Derived.Laws.MakeOwn
import Derived.Deep.RegionHeld
namespace Go.Proofs.YtdlokncalhopoaaGreat.Mth
def putF:Nat→Nat→List UInt8
 |0,n=>[UInt8.ofNat n]
 |f+1,n=>if n≤127 then[UInt8.ofNat n] else UInt8.ofNat (128+n % 128)::putF f (n / 128)
def put (n:Nat):List UInt8:=putF 5 n
theorem take_snoc (s:ByteArray) (k:Nat) (h:k < s.size):s.data.toList.take (k+1)=s.data.toList.take k++[s[k]]:=by
 rw [List.take_succ_eq_append_getElem (by simpa using h)];rfl
theorem take_all (s:ByteArray) (k:Nat) (h:¬k < s.size):s.data.toList.take k=s.data.toList:=by
 apply List.take_of_length_le
 simp only[Array.length_toList]
 show s.size≤k
 omega
def keyByte (c:UInt8):Bool:=decide (97≤(c.toNat:Int)∧(c.toNat:Int)≤122)||decide (48≤(c.toNat:Int)∧(c.toNat:Int)≤57)
theorem keyByte_yes (c:UInt8) (h:(97≤(c.toNat:Int)∧(c.toNat:Int)≤122)∨(48≤(c.toNat:Int)∧(c.toNat:Int)≤57)):keyByte c=true:=by
 unfold keyByte;simp;omega
theorem keyByte_no (c:UInt8) (h:(c.toNat:Int) < 48∨(57 < (c.toNat:Int)∧(c.toNat:Int) < 97)∨122 < (c.toNat:Int)):keyByte c=false:=by
 unfold keyByte;simp;omega
theorem byte_cases (c:UInt8):((97≤(c.toNat:Int)∧(c.toNat:Int)≤122)∨(48≤(c.toNat:Int)∧(c.toNat:Int)≤57))∨((c.toNat:Int) < 48∨(57 < (c.toNat:Int)∧(c.toNat:Int) < 97)∨122 < (c.toNat:Int)):=by omega
def keyOk (l:List UInt8):Bool:=l.all keyByte&&decide (1≤l.length∧l.length≤10)
theorem all_snoc (l:List UInt8) (c:UInt8):(l++[c]).all keyByte=(l.all keyByte&&keyByte c):=by simp
theorem keyOk_bad (l:List UInt8) (k:Nat) (h:(l.take k).all keyByte=false):keyOk l=false:=by
 have:l.all keyByte=false:=by
  rw [List.all_eq_false] at h ⊢
  obtain⟨x,hx,hp⟩:=h
  exact⟨x,List.mem_of_mem_take hx,hp⟩
 simp[keyOk,this]
theorem keyOk_all (l:List UInt8) (h:l.all keyByte=true):keyOk l=decide (1≤l.length∧l.length≤10):=by simp[keyOk,h]
theorem keyOk_len (l:List UInt8) (h:¬(1≤l.length∧l.length≤10)):keyOk l=false:=by simp[keyOk];intro _;omega
end Go.Proofs.YtdlokncalhopoaaGreat.Mth
namespace Go.Proofs.YtdlokncalhopoaaGreat
open Go.RowKit
theorem hide {p:Prop} (h:p):Hid p:=h
theorem unhide {p:Prop} (h:Hid p):p:=h
theorem ret_int {k:IntKind} {a b:Int} (h:a=b):Ending.returned (.int k a)= .returned (.int k b):=by rw [h]
theorem ret_bool {a b:Bool} (h:a=b):Ending.returned (.bool a)= .returned (.bool b):=by rw [h]
theorem size_toList (s:ByteArray):s.data.toList.length=s.size:=by simp
theorem not_empty (s:ByteArray) (h:0 < s.size):s.toList.isEmpty=false:=by
 rw [ByteArray.toList_eq,List.isEmpty_eq_false_iff,←List.length_pos_iff,size_toList];exact h
theorem eq_empty (s:ByteArray) (h:s.size=0):s=ByteArray.empty:=by
 apply ByteArray.ext;apply Array.eq_empty_of_size_eq_zero;exact h
end Go.Proofs.YtdlokncalhopoaaGreat
namespace Go.Proofs.YtdlokncalhopoaaGreat
namespace GR
open Go.RowKit
section
variable {α:Type} (enc:α→List Value) (sz:Nat)
def flat (l:List α):List Value:=l.flatMap enc
theorem flat_nil:flat enc []=[]:=rfl
theorem flat_cons (x:α) (r:List α):flat enc (x::r)=enc x++flat enc r:=rfl
theorem flat_append (l r:List α):flat enc (l++r)=flat enc l++flat enc r:=by simp[flat]
theorem flat_one (x:α):flat enc [x]=enc x:=by simp[flat]
theorem flat_length (h:∀x,(enc x).length=sz) (l:List α):(flat enc l).length=l.length*sz:=by
 induction l with
 |nil=>simp[flat]
 |cons x r ih=>rw [flat_cons,List.length_append,ih,h,List.length_cons,Nat.add_mul,Nat.one_mul,Nat.add_comm]
theorem flat_at (h:∀x,(enc x).length=sz):∀(l:List α) (i:Nat) (hi:i < l.length) (j:Nat),j < sz→(flat enc l)[i*sz+j]?=(enc l[i])[j]?:=by
 intro l
 induction l with
 |nil=>intro i hi;simp at hi
 |cons x r ih=>
  intro i hi j hj
  rw [flat_cons]
  cases i with
  |zero=>
   rw [Nat.zero_mul,Nat.zero_add,List.getElem?_append_left (by rw [h];exact hj)]
   rfl
  |succ i=>
   have e:(i+1)*sz+j=sz+(i*sz+j):=by rw [Nat.add_mul,Nat.one_mul];omega
   rw [List.getElem?_append_right (by rw [h];omega),h,e,Nat.add_sub_cancel_left,ih i (by simpa using hi) j hj]
   rfl
def setRun (xs:List Value) (o:Nat):List Value→List Value
 |[]=>xs
 |v::vs=>setRun (xs.set o v) (o+1) vs
theorem setRun_append_right (a:List Value):∀(vs:List Value) (o:Nat) (b:List Value),setRun (a++b) (a.length+o) vs=a++setRun b o vs:=by
 intro vs
 induction vs with
 |nil=>intro o b;rfl
 |cons v vs ih=>
  intro o b
  show setRun ((a++b).set (a.length+o) v) (a.length+o+1) vs=a++setRun (b.set o v) (o+1) vs
  rw [List.set_append_right _ _ (by omega),Nat.add_sub_cancel_left,Nat.add_assoc,ih]
theorem setRun_head:∀(vs a b:List Value),vs.length=a.length→setRun (a++b) 0 vs=vs++b:=by
 intro vs
 induction vs with
 |nil=>intro a b h;have:a=[]:=List.eq_nil_of_length_eq_zero (by simpa using h.symm);subst this;rfl
 |cons v vs ih=>
  intro a b h
  cases a with
  |nil=>simp at h
  |cons y a=>
   show setRun (((y::a)++b).set 0 v) (0+1) vs=v::vs++b
   have e:((y::a)++b).set 0 v=[v]++(a++b):=rfl
   rw [e,Nat.zero_add]
   have h2:=setRun_append_right [v] vs 0 (a++b)
   simp only[List.length_singleton,Nat.add_zero] at h2
   rw [h2,ih a b (by simpa using h)]
   rfl
theorem flat_set (h:∀x,(enc x).length=sz):∀(l:List α) (i:Nat) (x:α),i < l.length→setRun (flat enc l) (i*sz) (enc x)=flat enc (l.set i x):=by
 intro l
 induction l with
 |nil=>intro i x hi;simp at hi
 |cons y r ih=>
  intro i x hi
  cases i with
  |zero=>
   rw [Nat.zero_mul,flat_cons,setRun_head _ _ _ (by rw [h,h])]
   rfl
  |succ i=>
   have e:(i+1)*sz=(enc y).length+i*sz:=by rw [h,Nat.add_mul,Nat.one_mul,Nat.add_comm]
   rw [flat_cons,e,setRun_append_right _,ih i x (by simpa using hi)]
   rfl
def At (w:World) (a:Option Addr) (l:List α):Prop:=∀i (hi:i < l.length),∃g off,a=some ⟨g,off,none⟩∧g < w.heap.size∧∀j,j < sz→w.cell? ⟨g,off+(i*sz+j),none⟩=(enc l[i])[j]?
theorem At.below {enc:α→List Value} {sz:Nat} {w w':World} {a:Option Addr} {l:List α} (h:At enc sz w a l) (hb:Below w.heap.size w w'):At enc sz w' a l:=fun i hi=>by
 obtain⟨g,off,e,hg,hc⟩:=h i hi
 exact⟨g,off,e,Nat.lt_of_lt_of_le hg hb.size,fun j hj=>(hb.cell (p:=⟨g,off+(i*sz+j),none⟩) hg).trans (hc j hj)⟩
theorem at_nil {w:World} {a:Option Addr}:At enc sz w a []:=fun i hi=>by simp at hi
def Blk (t:TypeId) (w:World) (g:Nat) (l:List α):Prop:=w.heap[g]?=some (.cells (flat enc l).toArray t (0,0))
theorem Blk.cell {enc:α→List Value} {sz:Nat} {t:TypeId} {w:World} {g:Nat} {l:List α} (h:Blk enc t w g l) (hs:∀x,(enc x).length=sz) (i:Nat) (hi:i < l.length) (j:Nat) (hj:j < sz):w.cell? ⟨g,i*sz+j,none⟩=(enc l[i])[j]?:=by
 rw [cell_of_row w g _ _ t (0,0) h]
 simpa using flat_at enc sz hs l i hi j hj
theorem Blk.free {enc:α→List Value} {t:TypeId} {w:World} {g:Nat} {l:List α} (h:Blk enc t w g l) (i:Nat):w.frozen? ⟨g,i,none⟩=false:=by
 unfold World.frozen?;rw [h];simp
theorem Blk.lt {enc:α→List Value} {t:TypeId} {w:World} {g:Nat} {l:List α} (h:Blk enc t w g l):g < w.heap.size:=by
 rcases Nat.lt_or_ge g w.heap.size with h'|h'
 ·exact h'
 ·rw [Blk,Array.getElem?_eq_none h'] at h;cases h
theorem Blk.at {enc:α→List Value} {sz:Nat} {t:TypeId} {w:World} {g:Nat} {l:List α} (h:Blk enc t w g l) (hs:∀x,(enc x).length=sz):At enc sz w (some ⟨g,0,none⟩) l:=fun i hi=>
 ⟨g,0,rfl,h.lt,fun j hj=>by rw [Nat.zero_add];exact h.cell hs i hi j hj⟩
def setW (w:World) (g o:Nat):List Value→World
 |[]=>w
 |v::vs=>setW (w.setCell ⟨g,o,none⟩ v) g (o+1) vs
theorem setW_blk:∀(vs:List Value) {w:World} {g o:Nat} {xs:List Value} {t:TypeId},w.heap[g]?=some (.cells xs.toArray t (0,0))→(setW w g o vs).heap[g]?=some (.cells (setRun xs o vs).toArray t (0,0)):=by
 intro vs
 induction vs with
 |nil=>intro w g o xs t h;exact h
 |cons v vs ih=>
  intro w g o xs t h
  refine ih (xs:=xs.set o v) ?_
  unfold World.setCell
  simp only[Array.getElem?_modify]
  rw [if_pos trivial,h]
  simp
theorem Blk.set {enc:α→List Value} {sz:Nat} {t:TypeId} {w:World} {g:Nat} {l:List α} (h:Blk enc t w g l) (hs:∀x,(enc x).length=sz) (i:Nat) (hi:i < l.length) (x:α):Blk enc t (setW w g (i*sz) (enc x)) g (l.set i x):=by
 have h2:=setW_blk (enc x) (o:=i*sz) h
 rw [flat_set enc sz hs l i x hi] at h2
 exact h2
theorem setW_below {B:Nat} {a:World} {g:Nat} (hg:B≤g):∀(vs:List Value) {w:World} {o:Nat},Below B a w→Below B a (setW w g o vs):=by
 intro vs
 induction vs with
 |nil=>intro w o h;exact h
 |cons v vs ih=>intro w o h;exact ih (h.setCell (p:=⟨g,o,none⟩) hg v)
theorem setW_other {g g':Nat} (hne:g'≠g):∀(vs:List Value) {w:World} {o:Nat},(setW w g o vs).heap[g']?=w.heap[g']?:=by
 intro vs
 induction vs with
 |nil=>intro w o;rfl
 |cons v vs ih=>intro w o;exact(ih (w:=w.setCell ⟨g,o,none⟩ v)).trans (Below.heap_setCell _ _ _ _ hne)
theorem own_at {enc:α→List Value} {sz:Nat} {w:World} {base:Nat} {e:TypeId} {v:Value} {l:List α} (hs:∀x,(enc x).length=sz) (h:w.ownsRow base e sz v l.length (flat enc l)):∃a cap,v= .slice a l.length cap∧At enc sz w a l:=by
 rcases h.2 with⟨rfl,hn⟩|⟨g,cap,cur,rfl,hg,hblk,_⟩
 ·exact⟨none,0,by rw [hn],fun i hi=>by omega⟩
 ·refine⟨_,cap,rfl,fun i hi=>⟨g,0,rfl,?_,fun j hj=>?_⟩⟩
  ·rcases Nat.lt_or_ge g w.heap.size with h'|h'
   ·exact h'
   ·rw [Array.getElem?_eq_none h'] at hblk;cases hblk
  ·have hf:=flat_at enc sz hs l i hi j hj
   have hj':j < (enc l[i]).length:=by rw [hs];exact hj
   rw [List.getElem?_eq_getElem hj'] at hf ⊢
   have:=h.cells rfl (i*sz+j) _ hf
   have ea:(⟨g,0,none⟩:Addr).add (i*sz+j)=⟨g,0+(i*sz+j),none⟩:=by unfold Addr.add;split<;>simp_all
   rw [ea] at this
   exact this
end
end GR
end Go.Proofs.YtdlokncalhopoaaGreat
namespace Go.Proofs.YtdlokncalhopoaaGreat
namespace Mth
structure Pu where
 k:ByteArray
 m:Int
 f:Int
 s:Int
instance:Inhabited Pu:=⟨⟨ByteArray.empty,0,0,0⟩⟩
abbrev encP (p:Pu):List Value:=[.string p.k,.int .i64 p.m,.int .i64 p.f,.int .i64 p.s]
abbrev puv (p:Pu):Value:= .agg #[.string p.k,.int .i64 p.m,.int .i64 p.f,.int .i64 p.s]
theorem encP_length (p:Pu):(encP p).length=4:=rfl
def sle (a b:ByteArray):Bool:=Op.bytesLess a.toList b.toList||a.toList == b.toList
def amB (n:Int):Bool:=decide (0≤n∧n≤1000000000)
def puOk (p:Pu):Bool:=keyOk p.k.data.toList&&amB p.m&&amB p.f&&amB p.s&&amB (p.f+p.s)
def okAt (l:List Pu) (i:Nat):Bool:=puOk (l.getD i default)&&(i == 0|| !sle (l.getD i default).k (l.getD (i - 1) default).k)
def psOk (l:List Pu):Bool:=(List.range l.length).all (okAt l)&&decide (l.length≤20)
theorem all_range_succ (f:Nat→Bool) (k:Nat):(List.range (k+1)).all f=((List.range k).all f&&f k):=by
 rw [List.range_succ,List.all_append]
 simp
theorem psOk_bad {l:List Pu} {i:Nat} (hi:i < l.length) (h:okAt l i=false):psOk l=false:=by
 unfold psOk
 have:(List.range l.length).all (okAt l)=false:=by
  rw [List.all_eq_false]
  exact⟨i,List.mem_range.2 hi,by rw [h];simp⟩
 rw [this]
 rfl
theorem psOk_good {l:List Pu} (h:(List.range l.length).all (okAt l)=true):psOk l=decide (l.length≤20):=by unfold psOk;rw [h];rfl
def purseOf (l:List Pu) (k:ByteArray):Pu:=(l.find? fun p=>p.k.toList == k.toList).getD ⟨k,0,0,0⟩
theorem find_step (f:Pu→Bool) (l:List Pu) (i:Nat) (hi:i < l.length) (h:(l.take i).find? f=none):(f l[i]=true→l.find? f=some l[i])∧(f l[i]=false→(l.take (i+1)).find? f=none):=by
 constructor
 ·intro hf
  have e:l=l.take i++l[i]::l.drop (i+1):=by rw [←List.drop_eq_getElem_cons hi,List.take_append_drop]
  have h2:(l.take i++l[i]::l.drop (i+1)).find? f=some l[i]:=by
   rw [List.find?_append,h,List.find?_cons,hf]
   rfl
  rw [←e] at h2
  exact h2
 ·intro hf
  rw [List.take_succ_eq_append_getElem hi,List.find?_append,h,List.find?_cons,hf]
  rfl
theorem getD_at (l:List Pu) (i:Nat) (hi:i < l.length):l.getD i default=l[i]:=by rw [List.getD_eq_getElem?_getD,List.getElem?_eq_getElem hi];rfl
end Mth
end Go.Proofs.YtdlokncalhopoaaGreat
namespace Go.Proofs.YtdlokncalhopoaaGreat
open Go.RowKit
theorem l01In_yes (x a b:Int) (w:World) (h1:a≤x) (h2:x≤b):Calls Tryz.prog 21 #[.int .i64 x,.int .i64 a,.int .i64 b] w fun e w'=>e= .returned (.bool true)∧w=w':=by
 go_enter Tryz.func21,Tryz.ntmps21
 go_wp2
 go_ret
 exact⟨rfl,rfl⟩
theorem l01In_low (x a b:Int) (w:World) (h1:x < a):Calls Tryz.prog 21 #[.int .i64 x,.int .i64 a,.int .i64 b] w fun e w'=>e= .returned (.bool false)∧w=w':=by
 have h2:¬a≤x:=by omega
 go_enter Tryz.func21,Tryz.ntmps21
 go_wp2
 go_ret
 exact⟨rfl,rfl⟩
theorem l01In_high (x a b:Int) (w:World) (h1:a≤x) (h3:b < x):Calls Tryz.prog 21 #[.int .i64 x,.int .i64 a,.int .i64 b] w fun e w'=>e= .returned (.bool false)∧w=w':=by
 have h2:¬x≤b:=by omega
 go_enter Tryz.func21,Tryz.ntmps21
 go_wp2
 go_ret
 exact⟨rfl,rfl⟩
theorem l01In_no (x a b:Int) (w:World) (h:x < a∨b < x):Calls Tryz.prog 21 #[.int .i64 x,.int .i64 a,.int .i64 b] w fun e w'=>e= .returned (.bool false)∧w=w':=by
 by_cases h1:x < a
 ·exact l01In_low x a b w h1
 ·exact l01In_high x a b w (by omega) (by omega)
end Go.Proofs.YtdlokncalhopoaaGreat
namespace Go.Proofs.YtdlokncalhopoaaGreat
set_option maxHeartbeats 1000000
set_option maxRecDepth 100000
open Go.RowKit
theorem specKeyOk (s:ByteArray) (w:World) (hs:s.size≤maxLen):
 Calls Tryz.prog 23 #[.string s] w fun e w'=>e= .returned (.bool (Mth.keyOk s.data.toList))∧w=w':=by
 unfold maxLen at hs
 go_enter Tryz.func23,Tryz.ntmps23
 go_wp2
 go_loop [3] (fun i=>∃k:Nat,k≤s.size∧i= .int .i64 k∧(s.data.toList.take k).all Mth.keyByte=true) (fun i=>s.size - (intOf i).toNat)
 case atStart=>exact⟨0,Nat.zero_le _,rfl,rfl⟩
 case round=>
  obtain⟨k,hk,rfl,hall⟩:=hrel
  have HA:=hide hall
  clear hall
  by_cases hlt:k < s.size
  ·have HS:Hid ((s.data.toList.take (k+1)).all Mth.keyByte=((s.data.toList.take k).all Mth.keyByte&&Mth.keyByte s[k])):=by rw [Mth.take_snoc s k hlt];exact Mth.all_snoc _ _
   have hc:s[k].toNat < 256:=s[k].toNat_lt
   rcases Mth.byte_cases s[k] with h|h
   ·have HK:=hide (Mth.keyByte_yes _ h)
    rcases h with⟨h1,h2⟩|⟨h1,h2⟩
    all_goals
     go_wp2_with (go_at_call 21;first|(refine(l01In_yes _ _ _ _ ?_ ?_).mono ?_;omega;omega;rintro e w' ⟨rfl,rfl⟩)|(refine(l01In_no _ _ _ _ ?_).mono ?_;omega;rintro e w' ⟨rfl,rfl⟩))
     go_round
     case rel=>exact⟨k+1,by omega,by go_num,by rw [unhide HS,unhide HA,unhide HK];rfl⟩
     case measure=>simp[intOf];omega
   ·have HK:=hide (Mth.keyByte_no _ h)
    have HF:Hid (Mth.keyOk s.data.toList=false):=Mth.keyOk_bad _ (k+1) (by rw [unhide HS,unhide HA,unhide HK];rfl)
    rcases h with h1|⟨h1,h2⟩|h1
    all_goals
     go_wp2_with (go_at_call 21;first|(refine(l01In_yes _ _ _ _ ?_ ?_).mono ?_;omega;omega;rintro e w' ⟨rfl,rfl⟩)|(refine(l01In_no _ _ _ _ ?_).mono ?_;omega;rintro e w' ⟨rfl,rfl⟩))
     go_ret
     exact⟨ret_bool (unhide HF).symm,rfl⟩
  ·rw [Mth.take_all s k hlt] at HA
   have HF:Hid (Mth.keyOk s.data.toList=decide (1≤s.data.toList.length∧s.data.toList.length≤10)):=Mth.keyOk_all _ (unhide HA)
   rw [size_toList s] at HF
   by_cases hin:(1:Int)≤(s.size:Int)∧(s.size:Int)≤10
   ·obtain⟨hi1,hi2⟩:=hin
    go_wp2_with (go_at_call 21;first|(refine(l01In_yes _ _ _ _ ?_ ?_).mono ?_;omega;omega;rintro e w' ⟨rfl,rfl⟩)|(refine(l01In_no _ _ _ _ ?_).mono ?_;omega;rintro e w' ⟨rfl,rfl⟩))
    go_ret
    exact⟨ret_bool (by rw [unhide HF];simp;omega),rfl⟩
   ·go_wp2_with (go_at_call 21;first|(refine(l01In_yes _ _ _ _ ?_ ?_).mono ?_;omega;omega;rintro e w' ⟨rfl,rfl⟩)|(refine(l01In_no _ _ _ _ ?_).mono ?_;omega;rintro e w' ⟨rfl,rfl⟩))
    go_ret
    exact⟨ret_bool (by rw [unhide HF];simp;omega),rfl⟩
theorem small_yes (n:Int) (w:World) (h1:97≤n) (h2:n≤122):Calls Tryz.prog 71 #[.int .u8 n] w fun e w'=>e= .returned (.bool true)∧w=w':=by
 go_enter Tryz.func71,Tryz.ntmps71
 go_wp2
 go_ret
 exact⟨rfl,rfl⟩
theorem small_no (n:Int) (w:World) (h:n < 97∨122 < n):Calls Tryz.prog 71 #[.int .u8 n] w fun e w'=>e= .returned (.bool false)∧w=w':=by
 by_cases h1:97≤n
 ·have h2:¬n≤122:=by omega
  clear h
  go_enter Tryz.func71,Tryz.ntmps71
  go_wp2
  go_ret
  exact⟨rfl,rfl⟩
 ·clear h
  go_enter Tryz.func71,Tryz.ntmps71
  go_wp2
  go_ret
  exact⟨rfl,rfl⟩
theorem digit_yes (n:Int) (w:World) (h1:48≤n) (h2:n≤57):Calls Tryz.prog 72 #[.int .u8 n] w fun e w'=>e= .returned (.bool true)∧w=w':=by
 go_enter Tryz.func72,Tryz.ntmps72
 go_wp2
 go_ret
 exact⟨rfl,rfl⟩
theorem digit_no (n:Int) (w:World) (h:n < 48∨57 < n):Calls Tryz.prog 72 #[.int .u8 n] w fun e w'=>e= .returned (.bool false)∧w=w':=by
 by_cases h1:48≤n
 ·have h2:¬n≤57:=by omega
  clear h
  go_enter Tryz.func72,Tryz.ntmps72
  go_wp2
  go_ret
  exact⟨rfl,rfl⟩
 ·clear h
  go_enter Tryz.func72,Tryz.ntmps72
  go_wp2
  go_ret
  exact⟨rfl,rfl⟩
end Go.Proofs.YtdlokncalhopoaaGreat
namespace Go.Proofs.YtdlokncalhopoaaGreat
set_option maxHeartbeats 1000000
set_option maxRecDepth 100000
open Go.RowKit
theorem implKeyOk (s:ByteArray) (w:World):
 Calls Tryz.prog 56 #[.string s] w fun e w'=>e= .returned (.bool (Mth.keyOk s.data.toList))∧w=w':=by
 by_cases hlen:(1:Int)≤(s.size:Int)∧(s.size:Int)≤10
 ·obtain⟨hs1,hs2⟩:=hlen
  have hne:s.toList.isEmpty=false:=not_empty s (by omega)
  have h10:decide (10 < (s.size:Int))=false:=by simp;omega
  go_enter Tryz.func56,Tryz.ntmps56
  go_wp2
  go_loop [13] (fun i=>∃k:Nat,k≤s.size∧i= .int .i64 k∧(s.data.toList.take k).all Mth.keyByte=true) (fun i=>s.size - (intOf i).toNat)
  case atStart=>exact⟨0,Nat.zero_le _,rfl,rfl⟩
  case round=>
   obtain⟨k,hk,rfl,hall⟩:=hrel
   have HA:=hide hall
   clear hall
   by_cases hlt:k < s.size
   ·have HS:Hid ((s.data.toList.take (k+1)).all Mth.keyByte=((s.data.toList.take k).all Mth.keyByte&&Mth.keyByte s[k])):=by rw [Mth.take_snoc s k hlt];exact Mth.all_snoc _ _
    have hc:s[k].toNat < 256:=s[k].toNat_lt
    rcases Mth.byte_cases s[k] with h|h
    ·have HK:=hide (Mth.keyByte_yes _ h)
     rcases h with⟨h1,h2⟩|⟨h1,h2⟩
     all_goals
      go_wp2_with (first|(go_at_call 71;first|(refine(small_yes _ _ ?_ ?_).mono ?_;omega;omega;rintro e w' ⟨rfl,rfl⟩)|(refine(small_no _ _ ?_).mono ?_;omega;rintro e w' ⟨rfl,rfl⟩))|(go_at_call 72;first|(refine(digit_yes _ _ ?_ ?_).mono ?_;omega;omega;rintro e w' ⟨rfl,rfl⟩)|(refine(digit_no _ _ ?_).mono ?_;omega;rintro e w' ⟨rfl,rfl⟩)))
      go_round
      case rel=>exact⟨k+1,by omega,by go_num,by rw [unhide HS,unhide HA,unhide HK];rfl⟩
      case measure=>simp[intOf];omega
    ·have HK:=hide (Mth.keyByte_no _ h)
     have HF:Hid (Mth.keyOk s.data.toList=false):=Mth.keyOk_bad _ (k+1) (by rw [unhide HS,unhide HA,unhide HK];rfl)
     rcases h with h1|⟨h1,h2⟩|h1
     all_goals
      go_wp2_with (first|(go_at_call 71;first|(refine(small_yes _ _ ?_ ?_).mono ?_;omega;omega;rintro e w' ⟨rfl,rfl⟩)|(refine(small_no _ _ ?_).mono ?_;omega;rintro e w' ⟨rfl,rfl⟩))|(go_at_call 72;first|(refine(digit_yes _ _ ?_ ?_).mono ?_;omega;omega;rintro e w' ⟨rfl,rfl⟩)|(refine(digit_no _ _ ?_).mono ?_;omega;rintro e w' ⟨rfl,rfl⟩)))
      go_ret
      exact⟨ret_bool (unhide HF).symm,rfl⟩
   ·rw [Mth.take_all s k hlt] at HA
    have HF:Hid (Mth.keyOk s.data.toList=decide (1≤s.data.toList.length∧s.data.toList.length≤10)):=Mth.keyOk_all _ (unhide HA)
    rw [size_toList s] at HF
    go_wp2
    go_ret
    exact⟨ret_bool (by rw [unhide HF];simp;omega),rfl⟩
 ·have HF:Hid (Mth.keyOk s.data.toList=false):=Mth.keyOk_len _ (by rw [size_toList];omega)
  by_cases h0:s.size=0
  ·have he:s=ByteArray.empty:=eq_empty s h0
   subst he
   go_enter Tryz.func56,Tryz.ntmps56
   go_wp2
   go_ret
   exact⟨ret_bool (unhide HF).symm,rfl⟩
  ·have hne:s.toList.isEmpty=false:=not_empty s (by omega)
   have h10:10 < (s.size:Int):=by omega
   go_enter Tryz.func56,Tryz.ntmps56
   go_wp2
   go_ret
   exact⟨ret_bool (unhide HF).symm,rfl⟩
end Go.Proofs.YtdlokncalhopoaaGreat
namespace Go.Proofs.YtdlokncalhopoaaGreat
namespace Mth
structure Mg where
 K:Int
 F:Int
 T:Int
 I:Int
 L:Int
 k:ByteArray
 N:Int
abbrev mgv (m:Mg):Value:= .agg #[.int .i64 m.K,.int .i64 m.F,.int .i64 m.T,.int .i64 m.I,.int .i64 m.L,.string m.k,.int .i64 m.N]
def ndB (n:Int):Bool:=decide (0≤n∧n≤29)
def smB (n:Int):Bool:=decide (1≤n∧n≤1000000000)
def rtB (f t:Int):Bool:=ndB f&&ndB t&&decide (f≠t)
def mgOk (m:Mg):Bool:=
 rtB m.F m.T&&
  (if m.K=0 then keyOk m.k.data.toList&&smB m.N&&decide (m.I=0)&&decide (m.L=0)
   else if m.K=1 then keyOk m.k.data.toList&&smB m.N&&smB m.I&&decide (1≤m.L∧m.L≤m.I)
   else if m.K=2 then smB m.I&&decide (m.k.size=0)&&decide (m.N=0)&&decide (m.L=0)
   else false)
end Mth
open Go.RowKit
open Mth
theorem wp_at {P:Program} {Q:Exit→Act→World→Prop} {c:Code} {a:Act} {W:World} (h:∀W',W'=W→Code.wp P c Q a W'):Code.wp P c Q a W:=h W rfl
theorem below_one (w:World) (o:Obj):Below w.heap.size w (w.alloc o):=(Below.refl _ _).alloc (Nat.le_refl _) _
theorem ret_false {p:Prop} [Decidable p] (h:¬p):Ending.returned (.bool false)= .returned (.bool (decide p)):=by rw [decide_eq_false h]
theorem ret_dec {p q:Prop} [Decidable p] [Decidable q] (h:p↔q):Ending.returned (.bool (decide p))= .returned (.bool (decide q)):=by rw [decide_eq_decide.2 h]
theorem l01InR (x a b:Int) (r:Bool) (w:World) (h:decide (a≤x∧x≤b)=r):Calls Tryz.prog 21 #[.int .i64 x,.int .i64 a,.int .i64 b] w fun e w'=>e= .returned (.bool r)∧w=w':=by
 subst h
 by_cases h:a≤x∧x≤b
 ·rw [decide_eq_true h];exact l01In_yes x a b w h.1 h.2
 ·rw [decide_eq_false h];exact l01In_no x a b w (by omega)
theorem l04Node (n:Int) (r:Bool) (w:World) (h:ndB n=r):Calls Tryz.prog 40 #[.int .i64 n] w fun e w'=>e= .returned (.bool r)∧w=w':=by
 go_enter Tryz.func40,Tryz.ntmps40
 go_wp2_with (go_at_call 21;refine(l01InR _ _ _ r _ h).mono ?_;rintro e w1 ⟨rfl,rfl⟩)
 go_ret
 exact⟨rfl,rfl⟩
theorem l04Some (n:Int) (r:Bool) (w:World) (h:smB n=r):Calls Tryz.prog 19 #[.int .i64 n] w fun e w'=>e= .returned (.bool r)∧w=w':=by
 go_enter Tryz.func19,Tryz.ntmps19
 go_wp2_with (go_at_call 21;refine(l01InR _ _ _ r _ h).mono ?_;rintro e w1 ⟨rfl,rfl⟩)
 go_ret
 exact⟨rfl,rfl⟩
theorem isNode (n:Int) (r:Bool) (w:World) (h:ndB n=r):Calls Tryz.prog 53 #[.int .i64 n] w fun e w'=>e= .returned (.bool r)∧w=w':=by
 subst h
 by_cases h0:0≤n
 ·go_enter Tryz.func53,Tryz.ntmps53
  go_wp2
  go_ret
  exact⟨ret_dec (by omega),rfl⟩
 ·go_enter Tryz.func53,Tryz.ntmps53
  go_wp2
  go_ret
  exact⟨ret_false (by omega),rfl⟩
theorem isSomeAmount (n:Int) (r:Bool) (w:World) (h:smB n=r):Calls Tryz.prog 33 #[.int .i64 n] w fun e w'=>e= .returned (.bool r)∧w=w':=by
 subst h
 by_cases h0:1≤n
 ·go_enter Tryz.func33,Tryz.ntmps33
  go_wp2
  go_ret
  exact⟨ret_dec (by omega),rfl⟩
 ·go_enter Tryz.func33,Tryz.ntmps33
  go_wp2
  go_ret
  exact⟨ret_false (by omega),rfl⟩
theorem implKeyR (s:ByteArray) (b:Bool) (w:World) (h:keyOk s.data.toList=b):Calls Tryz.prog 56 #[.string s] w fun e w'=>e= .returned (.bool b)∧w=w':=by
 rw [←h]
 exact implKeyOk s w
theorem specKeyB (s:ByteArray) (b:Bool) (w:World) (hs:s.size≤maxLen) (h:keyOk s.data.toList=b):Calls Tryz.prog 23 #[.string s] w fun e w'=>e= .returned (.bool b)∧w=w':=by
 rw [←h]
 exact specKeyOk s w hs
end Go.Proofs.YtdlokncalhopoaaGreat
namespace Go.Proofs.YtdlokncalhopoaaGreat
namespace Mth
structure Snt where
 i:Int
 t:Int
 k:ByteArray
 n:Int
structure Sn where
 f:Int
 l:Int
 ids:List Int
structure Rq where
 no:Int
 k:ByteArray
 n:Int
 s:Int
structure Nd where
 id:Int
 par:Int
 kids:List Int
 next:Int
 pu:List Pu
 out:List Snt
 seen:List Sn
 old:Int
 reqs:List Rq
instance:Inhabited Snt:=⟨⟨0,0,ByteArray.empty,0⟩⟩
instance:Inhabited Sn:=⟨⟨0,0,[]⟩⟩
instance:Inhabited Rq:=⟨⟨0,ByteArray.empty,0,0⟩⟩
abbrev encNum (x:Int):List Value:=[.int .i64 x]
abbrev encSnt (s:Snt):List Value:=[.int .i64 s.i,.int .i64 s.t,.string s.k,.int .i64 s.n]
abbrev encRq (r:Rq):List Value:=[.int .i64 r.no,.string r.k,.int .i64 r.n,.int .i64 r.s]
theorem encNum_length (x:Int):(encNum x).length=1:=rfl
theorem encSnt_length (x:Snt):(encSnt x).length=4:=rfl
theorem encRq_length (x:Rq):(encRq x).length=4:=rfl
def chk {α:Type} (p:α→Bool) (r:α→α→Bool):List α→Bool
 |[]=>true
 |[x]=>p x
 |x::y::l=>p x&&r x y&&chk p r (y::l)
section
variable {α:Type} (p:α→Bool) (r:α→α→Bool)
theorem chk_cons (x:α) (l:List α):chk p r (x::l)=(p x&&(match l.head? with|none=>true|some y=>r x y)&&chk p r l):=by
 cases l with
 |nil=>simp[chk]
 |cons y l=>simp[chk]
theorem chk_snoc (l:List α) (x:α):chk p r (l++[x])=(chk p r l&&(p x&&(match l.getLast? with|none=>true|some y=>r y x))):=by
 induction l with
 |nil=>simp[chk]
 |cons y l ih=>
  rw [List.cons_append,chk_cons,ih,chk_cons]
  cases l with
  |nil=>simp[chk,Bool.and_comm,Bool.and_left_comm]
  |cons z l=>simp[Bool.and_assoc]
theorem chk_append (l m:List α):chk p r (l++m)=true→chk p r l=true:=by
 induction l with
 |nil=>simp[chk]
 |cons y l ih=>
  intro h
  rw [List.cons_append,chk_cons] at h
  rw [chk_cons]
  simp only[Bool.and_eq_true] at h ⊢
  refine⟨⟨h.1.1,?_⟩,ih h.2⟩
  cases l with
  |nil=>simp
  |cons z l=>simpa using h.1.2
theorem chk_first (l:List α) (h:0 < l.length):chk p r (l.take 1)=p l[0]:=by
 match l,h with
 |x::l,_=>simp[chk]
theorem chk_next (l:List α) (k:Nat) (h:k+1 < l.length):chk p r (l.take (k+2))=(chk p r (l.take (k+1))&&(p l[k+1]&&r l[k] l[k+1])):=by
 rw [List.take_succ_eq_append_getElem h,chk_snoc]
 have e:(l.take (k+1)).getLast?=some l[k]:=by
  rw [List.take_succ_eq_append_getElem (by omega),List.getLast?_append]
  simp
 rw [e]
theorem chk_bad (l:List α) (k:Nat) (h:chk p r (l.take k)=false):chk p r l=false:=by
 cases hc:chk p r l with
 |false=>rfl
 |true=>
  rw [←List.take_append_drop k l] at hc
  rw [chk_append p r _ _ hc] at h
  cases h
end
def kidB (id par x:Int):Bool:=ndB x&&decide (x≠id)&&decide (x≠par)
def ltB (x y:Int):Bool:=decide (x < y)
def placeB (n:Nd):Bool:=ndB n.id&&decide (-1≤n.par∧n.par≤29)&&decide (n.par≠n.id)&&decide (n.kids.length≤30)&&chk (kidB n.id n.par) ltB n.kids
def hasB (l:List Int) (x:Int):Bool:=l.any fun y=>decide (y=x)
def nearB (n:Nd) (x:Int):Bool:=(decide (0≤x)&&decide (x=n.par))||hasB n.kids x
def idB (low x:Int):Bool:=decide (low≤x∧x≤1000000000)
def snB (s:Sn):Bool:=smB s.l&&decide (s.ids.length≤40)&&chk (idB s.l) ltB s.ids
def toldB (n:Nd):Bool:=decide ((n.seen.length:Int)=n.kids.length+(if 0≤n.par then 1 else 0))&&chk (fun s=>nearB n s.f&&snB s) (fun s t=>ltB s.f t.f) n.seen
def outB (n:Nd) (o:Snt):Bool:=decide (1≤o.i∧o.i≤n.next - 1)&&nearB n o.t&&keyOk o.k.data.toList&&smB o.n
def reqB (n:Nd) (q:Rq):Bool:=decide (n.old+1≤q.no∧q.no≤1000000000)&&keyOk q.k.data.toList&&smB q.n&&decide (0≤q.s∧q.s≤2)
def outsB (n:Nd):Bool:=decide (n.out.length≤40)&&chk (outB n) (fun s t=>ltB s.i t.i) n.out
def reqsB (n:Nd):Bool:=amB n.old&&decide (n.reqs.length≤30)&&chk (reqB n) (fun s t=>ltB s.no t.no) n.reqs
def ndOk (n:Nd):Bool:=placeB n&&psOk n.pu&&toldB n&&smB n.next&&outsB n&&reqsB n
end Mth
end Go.Proofs.YtdlokncalhopoaaGreat
namespace Go.Proofs.YtdlokncalhopoaaGreat
open Go.RowKit
def Inn (x a b:Int):Prop:=a≤x∧x≤b
instance (x a b:Int):Decidable (Inn x a b):=by unfold Inn;infer_instance
theorem l01InB (x a b:Int) (w:World):Calls Tryz.prog 21 #[.int .i64 x,.int .i64 a,.int .i64 b] w fun e w'=>e= .returned (.bool (decide (Inn x a b)))∧w=w':=by
 by_cases h:Inn x a b
 ·rw [decide_eq_true h];exact l01In_yes x a b w h.1 h.2
 ·rw [decide_eq_false h];exact l01In_no x a b w (by unfold Inn at h;omega)
theorem l01Amount (n:Int) (w:World):Calls Tryz.prog 20 #[.int .i64 n] w fun e w'=>e= .returned (.bool (decide (Inn n 0 1000000000)))∧w=w':=by
 go_enter Tryz.func20,Tryz.ntmps20
 go_wp2_with (go_at_call 21;refine(l01InB _ _ _ _).mono ?_;rintro e w1 ⟨rfl,rfl⟩)
 go_ret
 exact⟨rfl,rfl⟩
end Go.Proofs.YtdlokncalhopoaaGreat
