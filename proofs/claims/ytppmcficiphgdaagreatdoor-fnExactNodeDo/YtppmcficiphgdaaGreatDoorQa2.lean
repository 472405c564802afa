/-
  GRows, PuMath, In, Key, KeyImpl, MgMath, NdMath, AmS, PuS, PuOf, PuBase, PuRows, PuLoops, PuSz.
-/
import Derived.Test.YtppmcficiphgdaaGreatDoorQa1
import Derived.Test.YtppmcficiphgdaaGreatDoorQaZ3
import Derived.OneCell
import Derived.Laws.MakeOwn
import Derived.Deep.RegionHeld
import Derived.Deep.QuietTactic
import Derived.Deep.RegionWith
import Derived.BigQuiet
import Derived.Laws.Cover1
namespace Go.Proofs.YtppmcficiphgdaaGreatDoor
namespace GR
open Go.RowKit
section
variable {α:Type} (enc:α→List Value) (sz:Nat)
def flat (l:List α):List Value:=l.flatMap enc
theorem flat_nil:flat enc []=[]:=rfl
theorem flat_cons (x:α) (r:List α):flat enc (x::r)=enc x++flat enc r:=rfl
theorem flat_append (l r:List α):flat enc (l++r)=flat enc l++flat enc r:=by simp[flat]
theorem flat_one (x:α):flat enc [x]=enc x:=by simp[flat]
theorem flat_length (h:∀x,(enc x).length=sz) (l:List α):(flat enc l).length=l.length*sz:=by
 induction l with
 |nil=>simp[flat]
 |cons x r ih=>rw [flat_cons,List.length_append,ih,h,List.length_cons,Nat.add_mul,Nat.one_mul,Nat.add_comm]
theorem flat_at (h:∀x,(enc x).length=sz):∀(l:List α) (i:Nat) (hi:i < l.length) (j:Nat),j < sz→(flat enc l)[i*sz+j]?=(enc l[i])[j]?:=by
 intro l;induction l with
 |nil=>intro i hi;simp at hi
 |cons x r ih=>
  intro i hi j hj
  rw [flat_cons]
  cases i with
  |zero=>
   rw [Nat.zero_mul,Nat.zero_add,List.getElem?_append_left (by rw [h];exact hj)]
   rfl
  |succ i=>
   have e:(i+1)*sz+j=sz+(i*sz+j):=by rw [Nat.add_mul,Nat.one_mul];omega
   rw [List.getElem?_append_right (by rw [h];omega),h,e,Nat.add_sub_cancel_left,ih i (by simpa using hi) j hj]
   rfl
def setRun (xs:List Value) (o:Nat):List Value→List Value
 |[]=>xs
 |v::vs=>setRun (xs.set o v) (o+1) vs
theorem setRun_append_right (a:List Value):∀(vs:List Value) (o:Nat) (b:List Value),setRun (a++b) (a.length+o) vs=a++setRun b o vs:=by
 intro vs;induction vs with
 |nil=>intro o b;rfl
 |cons v vs ih=>
  intro o b
  show setRun ((a++b).set (a.length+o) v) (a.length+o+1) vs=a++setRun (b.set o v) (o+1) vs
  rw [List.set_append_right _ _ (by omega),Nat.add_sub_cancel_left,Nat.add_assoc,ih]
theorem setRun_head:∀(vs a b:List Value),vs.length=a.length→setRun (a++b) 0 vs=vs++b:=by
 intro vs;induction vs with
 |nil=>intro a b h;have:a=[]:=List.eq_nil_of_length_eq_zero (by simpa using h.symm);subst this;rfl
 |cons v vs ih=>
  intro a b h
  cases a with
  |nil=>simp at h
  |cons y a=>
   show setRun (((y::a)++b).set 0 v) (0+1) vs=v::vs++b
   have e:((y::a)++b).set 0 v=[v]++(a++b):=rfl
   rw [e,Nat.zero_add]
   have h2:=setRun_append_right [v] vs 0 (a++b)
   simp only[List.length_singleton,Nat.add_zero] at h2
   rw [h2,ih a b (by simpa using h)]
   rfl
theorem flat_set (h:∀x,(enc x).length=sz):∀(l:List α) (i:Nat) (x:α),i < l.length→setRun (flat enc l) (i*sz) (enc x)=flat enc (l.set i x):=by
 intro l;induction l with
 |nil=>intro i x hi;simp at hi
 |cons y r ih=>
  intro i x hi
  cases i with
  |zero=>
   rw [Nat.zero_mul,flat_cons,setRun_head _ _ _ (by rw [h,h])]
   rfl
  |succ i=>
   have e:(i+1)*sz=(enc y).length+i*sz:=by rw [h,Nat.add_mul,Nat.one_mul,Nat.add_comm]
   rw [flat_cons,e,setRun_append_right _,ih i x (by simpa using hi)]
   rfl
def At (w:World) (a:Option Addr) (l:List α):Prop:=∀i (hi:i < l.length),∃g off,a=some ⟨g,off,none⟩∧g < w.heap.size∧∀j,j < sz→w.cell? ⟨g,off+(i*sz+j),none⟩=(enc l[i])[j]?
theorem At.below {enc:α→List Value} {sz:Nat} {w w':World} {a:Option Addr} {l:List α} (h:At enc sz w a l) (hb:Below w.heap.size w w'):At enc sz w' a l:=fun i hi=>by
 obtain⟨g,off,e,hg,hc⟩:=h i hi;exact⟨g,off,e,Nat.lt_of_lt_of_le hg hb.size,fun j hj=>(hb.cell (p:=⟨g,off+(i*sz+j),none⟩) hg).trans (hc j hj)⟩
theorem at_nil {w:World} {a:Option Addr}:At enc sz w a []:=fun i hi=>by simp at hi
def Blk (t:TypeId) (w:World) (g:Nat) (l:List α):Prop:=w.heap[g]?=some (.cells (flat enc l).toArray t (0,0))
theorem Blk.cell {enc:α→List Value} {sz:Nat} {t:TypeId} {w:World} {g:Nat} {l:List α} (h:Blk enc t w g l) (hs:∀x,(enc x).length=sz) (i:Nat) (hi:i < l.length) (j:Nat) (hj:j < sz):w.cell? ⟨g,i*sz+j,none⟩=(enc l[i])[j]?:=by
 rw [cell_of_row w g _ _ t (0,0) h];simpa using flat_at enc sz hs l i hi j hj
theorem Blk.free {enc:α→List Value} {t:TypeId} {w:World} {g:Nat} {l:List α} (h:Blk enc t w g l) (i:Nat):w.frozen? ⟨g,i,none⟩=false:=by
 unfold World.frozen?;rw [h];simp
theorem Blk.lt {enc:α→List Value} {t:TypeId} {w:World} {g:Nat} {l:List α} (h:Blk enc t w g l):g < w.heap.size:=by
 rcases Nat.lt_or_ge g w.heap.size with h'|h'
 ·exact h'
 ·rw [Blk,Array.getElem?_eq_none h'] at h;cases h
theorem Blk.at {enc:α→List Value} {sz:Nat} {t:TypeId} {w:World} {g:Nat} {l:List α} (h:Blk enc t w g l) (hs:∀x,(enc x).length=sz):At enc sz w (some ⟨g,0,none⟩) l:=fun i hi=>
 ⟨g,0,rfl,h.lt,fun j hj=>by rw [Nat.zero_add];exact h.cell hs i hi j hj⟩
def setW (w:World) (g o:Nat):List Value→World
 |[]=>w
 |v::vs=>setW (w.setCell ⟨g,o,none⟩ v) g (o+1) vs
theorem setW_blk:∀(vs:List Value) {w:World} {g o:Nat} {xs:List Value} {t:TypeId},w.heap[g]?=some (.cells xs.toArray t (0,0))→(setW w g o vs).heap[g]?=some (.cells (setRun xs o vs).toArray t (0,0)):=by
 intro vs;induction vs with
 |nil=>intro w g o xs t h;exact h
 |cons v vs ih=>
  intro w g o xs t h
  refine ih (xs:=xs.set o v) ?_
  unfold World.setCell
  simp only[Array.getElem?_modify]
  rw [if_pos trivial,h]
  simp
theorem Blk.set {enc:α→List Value} {sz:Nat} {t:TypeId} {w:World} {g:Nat} {l:List α} (h:Blk enc t w g l) (hs:∀x,(enc x).length=sz) (i:Nat) (hi:i < l.length) (x:α):Blk enc t (setW w g (i*sz) (enc x)) g (l.set i x):=by
 have h2:=setW_blk (enc x) (o:=i*sz) h;rw [flat_set enc sz hs l i x hi] at h2;exact h2
theorem setW_below {B:Nat} {a:World} {g:Nat} (hg:B≤g):∀(vs:List Value) {w:World} {o:Nat},Below B a w→Below B a (setW w g o vs):=by
 intro vs;induction vs with
 |nil=>intro w o h;exact h
 |cons v vs ih=>intro w o h;exact ih (h.setCell (p:=⟨g,o,none⟩) hg v)
theorem setW_other {g g':Nat} (hne:g'≠g):∀(vs:List Value) {w:World} {o:Nat},(setW w g o vs).heap[g']?=w.heap[g']?:=by
 intro vs;induction vs with
 |nil=>intro w o;rfl
 |cons v vs ih=>intro w o;exact(ih (w:=w.setCell ⟨g,o,none⟩ v)).trans (Below.heap_setCell _ _ _ _ hne)
theorem made_flat (h:∀x,(enc x).length=sz) (hz:0 < sz) (x:α) (z:Array Value) (he:z.toList=enc x) (n:Nat):madeCells z (n*sz)=(flat enc (List.replicate n x)).toArray:=by
 have hzs:z.size=sz:=by rw [←Array.length_toList,he,h]
 apply Array.ext_getElem?
 intro k;by_cases hk:k < n*sz
 ·have hq:k / sz < n:=Nat.div_lt_of_lt_mul (by rw [Nat.mul_comm];exact hk);have hr:k % sz < sz:=Nat.mod_lt _ hz;have hf:=flat_at enc sz h (List.replicate n x) (k / sz) (by simpa using hq) (k % sz) hr;have ek:k / sz*sz+k % sz=k:=Nat.div_add_mod' k sz;rw [ek] at hf;have h1:(madeCells z (n*sz))[k]?=some (z[k % z.size]!):=by simp[madeCells,hk]
  rw [h1,hzs]
  have h2:(flat enc (List.replicate n x)).toArray[k]?=(enc x)[k % sz]?:=by
   rw [List.getElem?_toArray,hf];simp
  rw [h2,←he];have h3:k % sz < z.size:=by omega
  rw [getElem!_pos z (k % sz) h3,Array.getElem?_toList,Array.getElem?_eq_getElem h3]
 ·have h1:(madeCells z (n*sz)).size≤k:=by simp[madeCells];omega
  have h2:(flat enc (List.replicate n x)).toArray.size≤k:=by
   rw [List.size_toArray,flat_length enc sz h];simp;omega
  rw [Array.getElem?_eq_none h1,Array.getElem?_eq_none h2]
theorem own_at {enc:α→List Value} {sz:Nat} {w:World} {base:Nat} {e:TypeId} {v:Value} {l:List α} (hs:∀x,(enc x).length=sz) (h:w.ownsRow base e sz v l.length (flat enc l)):∃a cap,v= .slice a l.length cap∧At enc sz w a l:=by
 rcases h.2 with⟨rfl,hn⟩|⟨g,cap,cur,rfl,hg,hblk,_⟩
 ·exact⟨none,0,by rw [hn],fun i hi=>by omega⟩
 ·refine⟨_,cap,rfl,fun i hi=>⟨g,0,rfl,?_,fun j hj=>?_⟩⟩
  ·rcases Nat.lt_or_ge g w.heap.size with h'|h'
   ·exact h'
   ·rw [Array.getElem?_eq_none h'] at hblk;cases hblk
  ·have hf:=flat_at enc sz hs l i hi j hj;have hj':j < (enc l[i]).length:=by rw [hs];exact hj
   rw [List.getElem?_eq_getElem hj'] at hf ⊢;have:=h.cells rfl (i*sz+j) _ hf;have ea:(⟨g,0,none⟩:Addr).add (i*sz+j)=⟨g,0+(i*sz+j),none⟩:=by unfold Addr.add;split<;>simp_all
   rw [ea] at this;exact this
end
end GR
namespace Mth
structure Pu where
 k:ByteArray
 m:Int
 f:Int
 s:Int
instance:Inhabited Pu:=⟨⟨ByteArray.empty,0,0,0⟩⟩
abbrev encP (p:Pu):List Value:=[.string p.k,.int .i64 p.m,.int .i64 p.f,.int .i64 p.s]
abbrev puv (p:Pu):Value:= .agg #[.string p.k,.int .i64 p.m,.int .i64 p.f,.int .i64 p.s]
theorem encP_length (p:Pu):(encP p).length=4:=rfl
def sle (a b:ByteArray):Bool:=Op.bytesLess a.toList b.toList||a.toList == b.toList
def amB (n:Int):Bool:=decide (0≤n∧n≤1000000000)
def puOk (p:Pu):Bool:=keyOk p.k.data.toList&&amB p.m&&amB p.f&&amB p.s&&amB (p.f+p.s)
def okAt (l:List Pu) (i:Nat):Bool:=puOk (l.getD i default)&&(i == 0|| !sle (l.getD i default).k (l.getD (i - 1) default).k)
def psOk (l:List Pu):Bool:=(List.range l.length).all (okAt l)&&decide (l.length≤20)
theorem all_range_succ (f:Nat→Bool) (k:Nat):(List.range (k+1)).all f=((List.range k).all f&&f k):=by
 rw [List.range_succ,List.all_append];simp
theorem psOk_bad {l:List Pu} {i:Nat} (hi:i < l.length) (h:okAt l i=false):psOk l=false:=by
 unfold psOk
 have:(List.range l.length).all (okAt l)=false:=by
  rw [List.all_eq_false];exact⟨i,List.mem_range.2 hi,by rw [h];simp⟩
 rw [this];rfl
theorem psOk_good {l:List Pu} (h:(List.range l.length).all (okAt l)=true):psOk l=decide (l.length≤20):=by unfold psOk;rw [h];rfl
def purseOf (l:List Pu) (k:ByteArray):Pu:=(l.find? fun p=>p.k.toList == k.toList).getD ⟨k,0,0,0⟩
theorem find_step (f:Pu→Bool) (l:List Pu) (i:Nat) (hi:i < l.length) (h:(l.take i).find? f=none):(f l[i]=true→l.find? f=some l[i])∧(f l[i]=false→(l.take (i+1)).find? f=none):=by
 exact Za28
theorem getD_at (l:List Pu) (i:Nat) (hi:i < l.length):l.getD i default=l[i]:=by rw [List.getD_eq_getElem?_getD,List.getElem?_eq_getElem hi];rfl
end Mth
open Go.RowKit
theorem l01In_yes (x a b:Int) (w:World) (h1:a≤x) (h2:x≤b):Calls Tryz.prog 48 #[.int .i64 x,.int .i64 a,.int .i64 b] w fun e w'=>e= .returned (.bool true)∧w=w':=by
 exact Za86
theorem l01In_low (x a b:Int) (w:World) (h1:x < a):Calls Tryz.prog 48 #[.int .i64 x,.int .i64 a,.int .i64 b] w fun e w'=>e= .returned (.bool false)∧w=w':=by
 have h2:¬a≤x:=by omega
 exact Za86
theorem l01In_high (x a b:Int) (w:World) (h1:a≤x) (h3:b < x):Calls Tryz.prog 48 #[.int .i64 x,.int .i64 a,.int .i64 b] w fun e w'=>e= .returned (.bool false)∧w=w':=by
 have h2:¬x≤b:=by omega
 exact Za86
theorem l01In_no (x a b:Int) (w:World) (h:x < a∨b < x):Calls Tryz.prog 48 #[.int .i64 x,.int .i64 a,.int .i64 b] w fun e w'=>e= .returned (.bool false)∧w=w':=by
 by_cases h1:x < a
 ·exact l01In_low x a b w h1
 ·exact l01In_high x a b w (by omega) (by omega)
set_option maxHeartbeats 1000000
set_option maxRecDepth 100000
theorem specKeyOk (s:ByteArray) (w:World) (hs:s.size≤maxLen):
 Calls Tryz.prog 50 #[.string s] w fun e w'=>e= .returned (.bool (Mth.keyOk s.data.toList))∧w=w':=by
 unfold maxLen at hs;go_enter Tryz.func50,Tryz.ntmps50
 go_wp2
 go_loop [3] (fun i=>∃k:Nat,k≤s.size∧i= .int .i64 k∧(s.data.toList.take k).all Mth.keyByte=true) (fun i=>s.size - (intOf i).toNat)
 case atStart=>exact⟨0,Nat.zero_le _,rfl,rfl⟩
 case round=>
  obtain⟨k,hk,rfl,hall⟩:=hrel;have HA:=hide hall;clear hall;by_cases hlt:k < s.size
  ·open Sa226 in exact Ya58
  ·open Sa317 in exact Ya92
theorem small_yes (n:Int) (w:World) (h1:97≤n) (h2:n≤122):Calls Tryz.prog 181 #[.int .u8 n] w fun e w'=>e= .returned (.bool true)∧w=w':=by
 exact Za77
theorem small_no (n:Int) (w:World) (h:n < 97∨122 < n):Calls Tryz.prog 181 #[.int .u8 n] w fun e w'=>e= .returned (.bool false)∧w=w':=by
 by_cases h1:97≤n
 ·have h2:¬n≤122:=by omega
  clear h;exact Za77
 ·clear h;exact Za77
theorem digit_yes (n:Int) (w:World) (h1:48≤n) (h2:n≤57):Calls Tryz.prog 182 #[.int .u8 n] w fun e w'=>e= .returned (.bool true)∧w=w':=by
 exact Za78
theorem digit_no (n:Int) (w:World) (h:n < 48∨57 < n):Calls Tryz.prog 182 #[.int .u8 n] w fun e w'=>e= .returned (.bool false)∧w=w':=by
 by_cases h1:48≤n
 ·have h2:¬n≤57:=by omega
  clear h;exact Za78
 ·clear h;exact Za78
set_option maxHeartbeats 1000000
theorem implKeyOk (s:ByteArray) (w:World):
 Calls Tryz.prog 153 #[.string s] w fun e w'=>e= .returned (.bool (Mth.keyOk s.data.toList))∧w=w':=by
 by_cases hlen:(1:Int)≤(s.size:Int)∧(s.size:Int)≤10
 ·obtain⟨hs1,hs2⟩:=hlen;have hne:s.toList.isEmpty=false:=not_empty s (by omega);have h10:decide (10 < (s.size:Int))=false:=by simp;omega
  go_enter Tryz.func153,Tryz.ntmps153
  go_wp2
  go_loop [13] (fun i=>∃k:Nat,k≤s.size∧i= .int .i64 k∧(s.data.toList.take k).all Mth.keyByte=true) (fun i=>s.size - (intOf i).toNat)
  case atStart=>exact⟨0,Nat.zero_le _,rfl,rfl⟩
  case round=>
   obtain⟨k,hk,rfl,hall⟩:=hrel;have HA:=hide hall;clear hall;by_cases hlt:k < s.size
   ·open Sa227 in exact Ya58
   ·open Sa318 in exact Ya92
 ·have HF:Hid (Mth.keyOk s.data.toList=false):=Mth.keyOk_len _ (by rw [size_toList];omega);by_cases h0:s.size=0
  ·have he:s=ByteArray.empty:=eq_empty s h0;subst he;exact Za105
  ·have hne:s.toList.isEmpty=false:=not_empty s (by omega);have h10:10 < (s.size:Int):=by omega
   exact Za105
namespace Mth
structure Mg where
 K:Int
 F:Int
 T:Int
 I:Int
 L:Int
 k:ByteArray
 N:Int
abbrev mgv (m:Mg):Value:= .agg #[.int .i64 m.K,.int .i64 m.F,.int .i64 m.T,.int .i64 m.I,.int .i64 m.L,.string m.k,.int .i64 m.N]
def ndB (n:Int):Bool:=decide (0≤n∧n≤29)
def smB (n:Int):Bool:=decide (1≤n∧n≤1000000000)
def rtB (f t:Int):Bool:=ndB f&&ndB t&&decide (f≠t)
def mgOk (m:Mg):Bool:=
 rtB m.F m.T&&
  (if m.K=0 then keyOk m.k.data.toList&&smB m.N&&decide (m.I=0)&&decide (m.L=0)
   else if m.K=1 then keyOk m.k.data.toList&&smB m.N&&smB m.I&&decide (1≤m.L∧m.L≤m.I)
   else if m.K=2 then smB m.I&&decide (m.k.size=0)&&decide (m.N=0)&&decide (m.L=0)
   else false)
end Mth
open Mth
theorem wp_at {P:Program} {Q:Exit→Act→World→Prop} {c:Code} {a:Act} {W:World} (h:∀W',W'=W→Code.wp P c Q a W'):Code.wp P c Q a W:=h W rfl
theorem below_one (w:World) (o:Obj):Below w.heap.size w (w.alloc o):=(Below.refl _ _).alloc (Nat.le_refl _) _
theorem ret_false {p:Prop} [Decidable p] (h:¬p):Ending.returned (.bool false)= .returned (.bool (decide p)):=by rw [decide_eq_false h]
theorem ret_dec {p q:Prop} [Decidable p] [Decidable q] (h:p↔q):Ending.returned (.bool (decide p))= .returned (.bool (decide q)):=by rw [decide_eq_decide.2 h]
theorem l01InR (x a b:Int) (r:Bool) (w:World) (h:decide (a≤x∧x≤b)=r):Calls Tryz.prog 48 #[.int .i64 x,.int .i64 a,.int .i64 b] w fun e w'=>e= .returned (.bool r)∧w=w':=by
 subst h;by_cases h:a≤x∧x≤b
 ·rw [decide_eq_true h];exact l01In_yes x a b w h.1 h.2
 ·rw [decide_eq_false h];exact l01In_no x a b w (by omega)
theorem l04Node (n:Int) (r:Bool) (w:World) (h:ndB n=r):Calls Tryz.prog 123 #[.int .i64 n] w fun e w'=>e= .returned (.bool r)∧w=w':=by
 go_enter Tryz.func123,Tryz.ntmps123
 exact Za92
theorem l04Some (n:Int) (r:Bool) (w:World) (h:smB n=r):Calls Tryz.prog 46 #[.int .i64 n] w fun e w'=>e= .returned (.bool r)∧w=w':=by
 go_enter Tryz.func46,Tryz.ntmps46
 exact Za92
theorem isNode (n:Int) (r:Bool) (w:World) (h:ndB n=r):Calls Tryz.prog 150 #[.int .i64 n] w fun e w'=>e= .returned (.bool r)∧w=w':=by
 subst h;by_cases h0:0≤n
 ·go_enter Tryz.func150,Tryz.ntmps150
  go_wp2
  go_ret;exact⟨ret_dec (by omega),rfl⟩
 ·go_enter Tryz.func150,Tryz.ntmps150
  go_wp2
  go_ret;exact⟨ret_false (by omega),rfl⟩
theorem isSomeAmount (n:Int) (r:Bool) (w:World) (h:smB n=r):Calls Tryz.prog 100 #[.int .i64 n] w fun e w'=>e= .returned (.bool r)∧w=w':=by
 subst h;by_cases h0:1≤n
 ·go_enter Tryz.func100,Tryz.ntmps100
  go_wp2
  go_ret;exact⟨ret_dec (by omega),rfl⟩
 ·go_enter Tryz.func100,Tryz.ntmps100
  go_wp2
  go_ret;exact⟨ret_false (by omega),rfl⟩
theorem implKeyR (s:ByteArray) (b:Bool) (w:World) (h:keyOk s.data.toList=b):Calls Tryz.prog 153 #[.string s] w fun e w'=>e= .returned (.bool b)∧w=w':=by
 rw [←h];exact implKeyOk s w
theorem specKeyB (s:ByteArray) (b:Bool) (w:World) (hs:s.size≤maxLen) (h:keyOk s.data.toList=b):Calls Tryz.prog 50 #[.string s] w fun e w'=>e= .returned (.bool b)∧w=w':=by
 rw [←h];exact specKeyOk s w hs
namespace Mth
structure Snt where
 i:Int
 t:Int
 k:ByteArray
 n:Int
structure Sn where
 f:Int
 l:Int
 ids:List Int
structure Rq where
 no:Int
 k:ByteArray
 n:Int
 s:Int
structure Nd where
 id:Int
 par:Int
 kids:List Int
 next:Int
 pu:List Pu
 out:List Snt
 seen:List Sn
 old:Int
 reqs:List Rq
instance:Inhabited Snt:=⟨⟨0,0,ByteArray.empty,0⟩⟩
instance:Inhabited Sn:=⟨⟨0,0,[]⟩⟩
instance:Inhabited Rq:=⟨⟨0,ByteArray.empty,0,0⟩⟩
abbrev encNum (x:Int):List Value:=[.int .i64 x]
abbrev encSnt (s:Snt):List Value:=[.int .i64 s.i,.int .i64 s.t,.string s.k,.int .i64 s.n]
abbrev encRq (r:Rq):List Value:=[.int .i64 r.no,.string r.k,.int .i64 r.n,.int .i64 r.s]
theorem encNum_length (x:Int):(encNum x).length=1:=rfl
theorem encSnt_length (x:Snt):(encSnt x).length=4:=rfl
theorem encRq_length (x:Rq):(encRq x).length=4:=rfl
def chk {α:Type} (p:α→Bool) (r:α→α→Bool):List α→Bool
 |[]=>true
 |[x]=>p x
 |x::y::l=>p x&&r x y&&chk p r (y::l)
section
variable {α:Type} (p:α→Bool) (r:α→α→Bool)
theorem chk_cons (x:α) (l:List α):chk p r (x::l)=(p x&&(match l.head? with|none=>true|some y=>r x y)&&chk p r l):=by
 cases l with
 |nil=>simp[chk]
 |cons y l=>simp[chk]
theorem chk_snoc (l:List α) (x:α):chk p r (l++[x])=(chk p r l&&(p x&&(match l.getLast? with|none=>true|some y=>r y x))):=by
 induction l with
 |nil=>simp[chk]
 |cons y l ih=>
  rw [List.cons_append,chk_cons,ih,chk_cons]
  cases l with
  |nil=>simp[chk,Bool.and_comm,Bool.and_left_comm]
  |cons z l=>simp[Bool.and_assoc]
theorem chk_append (l m:List α):chk p r (l++m)=true→chk p r l=true:=by
 induction l with
 |nil=>simp[chk]
 |cons y l ih=>
  intro h
  rw [List.cons_append,chk_cons] at h
  rw [chk_cons]
  simp only[Bool.and_eq_true] at h ⊢
  refine⟨⟨h.1.1,?_⟩,ih h.2⟩
  cases l with
  |nil=>simp
  |cons z l=>simpa using h.1.2
theorem chk_first (l:List α) (h:0 < l.length):chk p r (l.take 1)=p l[0]:=by
 match l,h with
 |x::l,_=>simp[chk]
theorem chk_next (l:List α) (k:Nat) (h:k+1 < l.length):chk p r (l.take (k+2))=(chk p r (l.take (k+1))&&(p l[k+1]&&r l[k] l[k+1])):=by
 rw [List.take_succ_eq_append_getElem h,chk_snoc]
 have e:(l.take (k+1)).getLast?=some l[k]:=by
  rw [List.take_succ_eq_append_getElem (by omega),List.getLast?_append];simp
 rw [e]
theorem chk_bad (l:List α) (k:Nat) (h:chk p r (l.take k)=false):chk p r l=false:=by
 cases hc:chk p r l with
 |false=>rfl
 |true=>
  rw [←List.take_append_drop k l] at hc
  rw [chk_append p r _ _ hc] at h
  cases h
end
def kidB (id par x:Int):Bool:=ndB x&&decide (x≠id)&&decide (x≠par)
def ltB (x y:Int):Bool:=decide (x < y)
def placeB (n:Nd):Bool:=ndB n.id&&decide (-1≤n.par∧n.par≤29)&&decide (n.par≠n.id)&&decide (n.kids.length≤30)&&chk (kidB n.id n.par) ltB n.kids
def hasB (l:List Int) (x:Int):Bool:=l.any fun y=>decide (y=x)
def nearB (n:Nd) (x:Int):Bool:=(decide (0≤x)&&decide (x=n.par))||hasB n.kids x
def idB (low x:Int):Bool:=decide (low≤x∧x≤1000000000)
def snB (s:Sn):Bool:=smB s.l&&decide (s.ids.length≤40)&&chk (idB s.l) ltB s.ids
def toldB (n:Nd):Bool:=decide ((n.seen.length:Int)=n.kids.length+(if 0≤n.par then 1 else 0))&&chk (fun s=>nearB n s.f&&snB s) (fun s t=>ltB s.f t.f) n.seen
def outB (n:Nd) (o:Snt):Bool:=decide (1≤o.i∧o.i≤n.next - 1)&&nearB n o.t&&keyOk o.k.data.toList&&smB o.n
def reqB (n:Nd) (q:Rq):Bool:=decide (n.old+1≤q.no∧q.no≤1000000000)&&keyOk q.k.data.toList&&smB q.n&&decide (0≤q.s∧q.s≤2)
def outsB (n:Nd):Bool:=decide (n.out.length≤40)&&chk (outB n) (fun s t=>ltB s.i t.i) n.out
def reqsB (n:Nd):Bool:=amB n.old&&decide (n.reqs.length≤30)&&chk (reqB n) (fun s t=>ltB s.no t.no) n.reqs
def ndOk (n:Nd):Bool:=placeB n&&psOk n.pu&&toldB n&&smB n.next&&outsB n&&reqsB n
end Mth
def Inn (x a b:Int):Prop:=a≤x∧x≤b
instance (x a b:Int):Decidable (Inn x a b):=by unfold Inn;infer_instance
theorem l01InB (x a b:Int) (w:World):Calls Tryz.prog 48 #[.int .i64 x,.int .i64 a,.int .i64 b] w fun e w'=>e= .returned (.bool (decide (Inn x a b)))∧w=w':=by
 by_cases h:Inn x a b
 ·rw [decide_eq_true h];exact l01In_yes x a b w h.1 h.2
 ·rw [decide_eq_false h];exact l01In_no x a b w (by unfold Inn at h;omega)
theorem l01Amount (n:Int) (w:World):Calls Tryz.prog 47 #[.int .i64 n] w fun e w'=>e= .returned (.bool (decide (Inn n 0 1000000000)))∧w=w':=by
 go_enter Tryz.func47,Tryz.ntmps47
 go_wp2_with (go_at_call 48;refine(l01InB _ _ _ _).mono ?_;rintro e w1 ⟨rfl,rfl⟩)
 go_ret;exact⟨rfl,rfl⟩
set_option maxHeartbeats 4000000
abbrev PursesAt (w:World) (a:Option Addr) (l:List Pu):Prop:=GR.At encP 4 w a l
theorem PursesAt.four {w:World} {a:Option Addr} {l:List Pu} (h:PursesAt w a l) (i:Nat) (hi:i < l.length):∃g off,a=some ⟨g,off,none⟩∧g < w.heap.size∧w.cell? ⟨g,off+i*4,none⟩=some (.string l[i].k)∧w.cell? ⟨g,off+i*4+1,none⟩=some (.int .i64 l[i].m)∧w.cell? ⟨g,off+i*4+2,none⟩=some (.int .i64 l[i].f)∧w.cell? ⟨g,off+i*4+3,none⟩=some (.int .i64 l[i].s):=by
 exact Za26
theorem qKey (s:ByteArray) (b:Bool) (hs:s.size≤maxLen) (hb:keyOk s.data.toList=b) (W:World) (n:Nat):Calls Tryz.prog 50 #[.string s] (W.drewN n) fun e w''=>e= .returned (.bool b)∧∃m,w''=W.drewN m:=by
 rw [←hb];exact(specKeyOk s _ hs).mono fun e w' ⟨he,hw⟩=>⟨he,n,hw.symm⟩
theorem qAm (x:Int) (b:Bool) (hb:decide (Inn x 0 1000000000)=b) (W:World) (n:Nat):Calls Tryz.prog 47 #[.int .i64 x] (W.drewN n) fun e w''=>e= .returned (.bool b)∧∃m,w''=W.drewN m:=by
 rw [←hb];exact(l01Amount x _).mono fun e w' ⟨he,hw⟩=>⟨he,n,hw.symm⟩
theorem specPursesOk (a:Option Addr) (cap:Nat) (l:List Pu) (w:World) (hl:l.length≤1048600) (hk:∀p∈l,p.k.size≤maxLen) (ha:PursesAt w a l):
 Calls Tryz.prog 44 #[.slice a l.length cap] w fun e w'=>e= .returned (.bool (psOk l))∧Below w.heap.size w w':=by
 have HA:=hide ha;have HK:=hide hk;clear ha hk;go_enter Tryz.func44,Tryz.ntmps44
 go_wp2_with fail;go_loopw [3] (fun i wr=>∃k:Nat,k≤l.length∧i= .int .i64 k∧(List.range k).all (okAt l)=true∧Below w.heap.size w wr) (fun i _=>l.length - (intOf i).toNat)
 case atStart=>exact Za110
 case round=>
  obtain⟨k,hk,rfl,hall,hbel⟩:=hrel;have HBL:=hide hbel;have HALL:=hide hall;clear hall hbel;by_cases hlt:k < l.length
  ·have hks:=unhide HK l[k] (List.getElem_mem hlt);open Sa89 in exact Ya20
  ·exact Za34
set_option maxHeartbeats 2000000
theorem specPurseOf (a:Option Addr) (cap:Nat) (l:List Pu) (key:ByteArray) (w:World) (hl:l.length≤1048600) (ha:PursesAt w a l):
 Calls Tryz.prog 136 #[.slice a l.length cap,.string key] w fun e w'=>e= .returned (puv (purseOf l key))∧Below w.heap.size w w':=by
 have HA:=hide ha;clear ha;go_enter Tryz.func136,Tryz.ntmps136
 go_wp2_with fail;go_loopw [5] (fun i wr=>∃k:Nat,k≤l.length∧i= .int .i64 k∧(l.take k).find? (fun p=>p.k.toList == key.toList)=none∧wr=w.alloc (.cells #[.string ⟨#[]⟩,.int .i64 0,.int .i64 0,.int .i64 0] 141)) (fun i _=>l.length - (intOf i).toNat)
 case atStart=>exact⟨0,Nat.zero_le _,rfl,rfl,rfl⟩
 case round=>
  obtain⟨k,hk,rfl,hnone,rfl⟩:=hrel;have HN:=hide hnone;clear hnone;by_cases hlt:k < l.length
  ·obtain⟨g,off,rfl,hgw,c0,c1,c2,c3⟩:=PursesAt.four HA k hlt;have hfs:=find_step (fun p=>p.k.toList == key.toList) l k hlt HN;cases hf:l[k].k.toList == key.toList
   ·have HX:=hide (hfs.2 hf);clear hfs HN;open Sa322 in exact Ya94
   ·have HX:=hide (show purseOf l key=l[k] by unfold purseOf;rw [hfs.1 hf];rfl);clear hfs HN;open Sa321 in exact Ya94
  ·open Sa69 in exact Ya17
theorem four_at {w:World} {g:Nat} {a0 a1 a2 a3:Value} {t:TypeId} (h:w.heap[g]?=some (.cells #[a0,a1,a2,a3] t (0,0))):
 (w.cell? ⟨g,0,none⟩=some a0∧w.cell? ⟨g,1,none⟩=some a1∧w.cell? ⟨g,2,none⟩=some a2∧w.cell? ⟨g,3,none⟩=some a3)∧(w.frozen? ⟨g,0,none⟩=false∧w.frozen? ⟨g,1,none⟩=false∧w.frozen? ⟨g,2,none⟩=false∧w.frozen? ⟨g,3,none⟩=false):=by
 have hc:∀i,w.cell? ⟨g,i,none⟩=#[a0,a1,a2,a3][i]?:=fun i=>cell_of_row w g i _ t (0,0) h
 have hf:∀i,w.frozen? ⟨g,i,none⟩=false:=fun i=>by unfold World.frozen?;rw [h];simp
 exact⟨⟨hc 0,hc 1,hc 2,hc 3⟩,hf 0,hf 1,hf 2,hf 3⟩
theorem below_one' (w:World) (o:Obj):Below w.heap.size w (w.alloc o):=(Below.refl _ _).alloc (Nat.le_refl _) _
theorem infoPu:(Tryz.prog.info? 141).map (fun i=>(i.zero,i.size,i.bytes))=some (some (.agg #[.string ByteArray.empty,.int .i64 0,.int .i64 0,.int .i64 0]),4,40):=by kernel_rfl
theorem PursesAt.news {w:World} {x:Addr} {l:List Pu} (h:PursesAt w (some x) l):∀j u,(GR.flat encP l)[j]?=some u→w.cell? (x.add j)=some u:=by
 intro j u hu
 have hj:j < l.length*4:=by
  have:=(List.getElem?_eq_some_iff.1 hu).1;rwa [GR.flat_length encP 4 encP_length] at this
 obtain⟨g,off,e,hg,hc⟩:=h (j / 4) (by omega);have hf:=GR.flat_at encP 4 encP_length l (j / 4) (by omega) (j % 4) (by omega);have ej:j / 4*4+j % 4=j:=by omega
 rw [ej] at hf;have h2:=hc (j % 4) (by omega);exact Za66
theorem encP_one (l:List Pu):∀u∈GR.flat encP l,u.oneCell'=true:=by
 intro u hu;unfold GR.flat at hu;rw [List.mem_flatMap] at hu;obtain⟨p,_,hp⟩:=hu;simp only[encP,List.mem_cons,List.not_mem_nil,or_false] at hp;rcases hp with rfl|rfl|rfl|rfl<;>rfl
set_option maxHeartbeats 2000000
abbrev puBlk (w:World) (g:Nat) (l:List Pu):Prop:=GR.Blk encP 141 w g l
theorem puBlk.four {w:World} {g:Nat} {l:List Pu} (h:puBlk w g l) (i:Nat) (hi:i < l.length):w.cell? ⟨g,i*4,none⟩=some (.string l[i].k)∧w.cell? ⟨g,i*4+1,none⟩=some (.int .i64 l[i].m)∧w.cell? ⟨g,i*4+2,none⟩=some (.int .i64 l[i].f)∧w.cell? ⟨g,i*4+3,none⟩=some (.int .i64 l[i].s):=
 ⟨by simpa using GR.Blk.cell h encP_length i hi 0 (by omega),by simpa using GR.Blk.cell h encP_length i hi 1 (by omega),by simpa using GR.Blk.cell h encP_length i hi 2 (by omega),by simpa using GR.Blk.cell h encP_length i hi 3 (by omega)⟩
theorem blkstep {w w':World} {g:Nat} {l:List Pu} (h:puBlk w g l) (hb:Below w.heap.size w w'):puBlk w' g l:=by
 have hl:=GR.Blk.lt h;unfold puBlk GR.Blk at *;rw [hb.block g hl];exact h
theorem make_purses (n:Nat) (hn:n≤2000000):∀W:World,(Instr.makeSlice 25 (.int .i64 (n:Int)) (.int .i64 (n:Int))).run Tryz.prog W= .ok (.slice (some ⟨W.heap.size,0,none⟩) n n) (W.alloc (.cells (GR.flat encP (List.replicate n ⟨ByteArray.empty,0,0,0⟩)).toArray 141)):=by
 obtain⟨i0,hi,hz0,hz1,hz2⟩:=info_parts infoPu;intro W;have h:=run_make (P:=Tryz.prog) W 25 141 i0 (.agg #[.string ByteArray.empty,.int .i64 0,.int .i64 0,.int .i64 0]) Tryz.underlying25 hi hz0 .i64 .i64 (n:Int) (n:Int) (by omega) (by omega) (by rw [hz2];omega) (by omega);rw [hz1] at h;have e:=GR.made_flat encP 4 encP_length (by omega) ⟨ByteArray.empty,0,0,0⟩ (Value.agg #[.string ByteArray.empty,.int .i64 0,.int .i64 0,.int .i64 0]).cells rfl n;exact Za53
theorem toPurse (p:Pu) (w:World):Calls Tryz.prog 138 #[puv p] w fun e w'=>e= .returned (puv p)∧Below w.heap.size w w':=by
 obtain⟨k,m,f,s⟩:=p;go_enter Tryz.func138,Tryz.ntmps138
 go_wp2_with fail;refine bodyPost_ret (v:= .agg #[.string k,.int .i64 m,.int .i64 f,.int .i64 s]) (by simp[results,Tryz.results138,go_sem]) rfl ⟨rfl,?_⟩;exact Za61
theorem eqPurse (p:Pu) (w:World):Calls Tryz.prog 142 #[puv p,puv p] w fun e w'=>e= .returned (.bool true)∧Below w.heap.size w w':=by
 obtain⟨k,m,f,s⟩:=p;go_enter Tryz.func142,Tryz.ntmps142
 exact Za52
theorem take_set_pu (l:List Pu) (z:Pu) (k:Nat) (hk:k < l.length):(l.take k++List.replicate (l.length - k) z).set k l[k]=l.take (k+1)++List.replicate (l.length - (k+1)) z:=by
 exact Za18
theorem toPurseS (a:Option Addr) (cap:Nat) (l:List Pu) (w:World) (hl:l.length≤1048576) (ha:PursesAt w a l):
 Calls Tryz.prog 65 #[.slice a l.length cap] w fun e w'=>e= .returned (.slice (some ⟨w.heap.size,0,none⟩) l.length l.length)∧puBlk w' w.heap.size l∧Below w.heap.size w w':=by
 have hmk:=make_purses l.length (by omega);have HA:=hide ha;clear ha;go_enter Tryz.func65,Tryz.ntmps65
 go_wp2_with fail;go_loopw [4] (fun i wr=>∃k:Nat,k≤l.length∧i= .int .i64 k∧puBlk wr w.heap.size (l.take k++List.replicate (l.length - k) ⟨ByteArray.empty,0,0,0⟩)∧Below w.heap.size w wr) (fun i _=>l.length - (intOf i).toNat)
 case atStart=>exact Za76
 case round=>
  open Sa208 in exact Ya52
set_option maxHeartbeats 2000000
theorem szPurse (p:Pu) (left:Int) (w:World) (h0:0≤left) (h1:left≤1048576) (hk:p.k.size≤maxLen):Calls Tryz.prog 125 #[puv p,.int .i64 left] w fun e w'=>e= .returned (.int .i64 (if (p.k.size:Int)≤left then left - p.k.size else -1))∧Below w.heap.size w w':=by
 obtain⟨k,m,f,s⟩:=p;dsimp only at hk ⊢;unfold maxLen at hk;by_cases hc:(k.size:Int)≤left
 ·rw [if_pos hc];have hn:¬(left - (k.size:Int) < 0):=by omega
  go_enter Tryz.func125,Tryz.ntmps125
  exact Za27
 ·rw [if_neg hc];have hn:left - (k.size:Int) < 0:=by omega
  go_enter Tryz.func125,Tryz.ntmps125
  exact Za27
theorem eqPurseS (a b:Option Addr) (ca cb:Nat) (l:List Pu) (w:World) (hl:l.length≤1048600) (ha:PursesAt w a l) (hb:PursesAt w b l):
 Calls Tryz.prog 71 #[.slice a l.length ca,.slice b l.length cb] w fun e w'=>e= .returned (.bool true)∧Below w.heap.size w w':=by
 have HA:=hide ha;have HB:=hide hb;clear ha hb;go_enter Tryz.func71,Tryz.ntmps71
 go_wp2_with fail;go_loopw [5] (fun i wr=>∃k:Nat,k≤l.length∧i= .int .i64 k∧Below w.heap.size w wr) (fun i _=>l.length - (intOf i).toNat)
 case atStart=>exact Za32
 case round=>
  obtain⟨k,hk,rfl,hbel⟩:=hrel;have HBL:=hide hbel;clear hbel;by_cases hlt:k < l.length
  ·obtain⟨g1,o1,rfl,hg1,s0,s1,s2,s3⟩:=PursesAt.four (GR.At.below HA HBL) k hlt;obtain⟨g2,o2,rfl,hg2,t0,t1,t2,t3⟩:=PursesAt.four (GR.At.below HB HBL) k hlt;generalize l[k]=pu at *;have HEQ:=hide (fun w1=>eqPurse pu w1);obtain⟨pk,pm,pf,ps⟩:=pu;dsimp only at s0 s1 s2 s3 t0 t1 t2 t3;go_wp2_with fail
   go_region_held (fun w'=>(w'.cell? ⟨g1,o1+k*4,none⟩=some (.string pk)∧w'.cell? ⟨g1,o1+k*4+1,none⟩=some (.int .i64 pm)∧w'.cell? ⟨g1,o1+k*4+2,none⟩=some (.int .i64 pf)∧w'.cell? ⟨g1,o1+k*4+3,none⟩=some (.int .i64 ps))∧w'.cell? ⟨g2,o2+k*4,none⟩=some (.string pk)∧w'.cell? ⟨g2,o2+k*4+1,none⟩=some (.int .i64 pm)∧w'.cell? ⟨g2,o2+k*4+2,none⟩=some (.int .i64 pf)∧w'.cell? ⟨g2,o2+k*4+3,none⟩=some (.int .i64 ps)) (go_keep)
    (first
     |(go_at_call 142;refine(HEQ _).mono ?_;rintro e w5 ⟨rfl,hb5⟩;have hb6:Below wr.heap.size wr w5:=⟨hb5.os,hb5.tape,hb5.output,hb5.size,hb5.block⟩;clear hb5;have HBL5:=hide (HBL.trans (hb6.mono HBL.size));have y0:=(hb6.cell (p:=⟨g1,o1+k*4,none⟩) hg1).trans s0;have y1:=(hb6.cell (p:=⟨g1,o1+k*4+1,none⟩) hg1).trans s1;have y2:=(hb6.cell (p:=⟨g1,o1+k*4+2,none⟩) hg1).trans s2;have y3:=(hb6.cell (p:=⟨g1,o1+k*4+3,none⟩) hg1).trans s3;have z0:=(hb6.cell (p:=⟨g2,o2+k*4,none⟩) hg2).trans t0;have z1:=(hb6.cell (p:=⟨g2,o2+k*4+1,none⟩) hg2).trans t1;have z2:=(hb6.cell (p:=⟨g2,o2+k*4+2,none⟩) hg2).trans t2;have z3:=(hb6.cell (p:=⟨g2,o2+k*4+3,none⟩) hg2).trans t3;clear hb6))
   all_goals
    go_wp2_with fail
    go_roundw
    case rel=>exact⟨k+1,by omega,by go_num,HBL5⟩
    case measure=>simp[intOf];omega
  ·exact Za19
set_option maxHeartbeats 2000000
theorem szPurseSG (a:Option Addr) (ca:Nat) (l:List Pu) (z0:Int) (w:World) (h0:0≤z0) (h1:z0≤1048576) (hl:l.length≤maxLen) (hks:∀p∈l,p.k.size≤maxLen) (ha:PursesAt w a l):
 Calls Tryz.prog 52 #[.slice a l.length ca,.int .i64 z0] w fun e w'=>∃r:Int,e= .returned (.int .i64 r)∧Below w.heap.size w w'∧(r= -1∨0≤r∧r≤1048576∧l.length≤1048576∧∀p∈l,p.k.size≤1048576):=by
 have HA:=hide ha;clear ha;unfold maxLen at hl;by_cases hbig:(l.length:Int)≤z0
 ·have hn:¬(z0 - (l.length:Int) < 0):=by omega
  go_enter Tryz.func52,Tryz.ntmps52
  go_wp2_with fail;go_loopw [1,5] (fun lf i wr=>∃(k:Nat) (z:Int),k≤l.length∧i= .int .i64 k∧lf= .int .i64 z∧0≤z∧z≤1048576∧(∀p∈l.take k,p.k.size≤1048576)∧Below w.heap.size w wr) (fun _ i _=>l.length - (intOf i).toNat)
  case atStart=>exact Za31
  case round=>
   open Sa244 in exact Ya64
 ·have hn:z0 - (l.length:Int) < 0:=by omega
  go_enter Tryz.func52,Tryz.ntmps52
  exact Za56
end Go.Proofs.YtppmcficiphgdaaGreatDoor
