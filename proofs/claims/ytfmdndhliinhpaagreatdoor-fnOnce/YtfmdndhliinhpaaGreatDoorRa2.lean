/- Parts. -/
import Derived.Test.YtfmdndhliinhpaaGreatDoorRa1
namespace Go.Proofs.YtfmdndhliinhpaaGreatDoor
open Go.RowKit
section
variable {P:Program} {ops:Array Oper} {Q:Exit→Act→World→Prop} {md:Region.Mode} {E b:Nat} {is:List Nat} {i:Nat} {oi:Oper} {fuel:Nat} {listed:Array Bool} {a:Act} {w:World}
def WQ (_:List Nat) (p:Prop):Prop:=p
theorem tk (is:List Nat) {p:Prop} (h:WQ is p):p:=h
theorem kK {p:Prop} (h:p):WQ [] p:=h
theorem Rm (h:∀K:Act→Prop,(∀a',WQ is (jq P md ops Q fuel (listed.setIfInBounds i true) a' w)→K a')→if Region.wanted oi (yielded ops a.tmps) then∃v,(∀p:Regrown,Oper.quietUpon P (Ge (Gr w p)) (Gr w p) v ((execOp a.eval oi).run P (Gr w p)))∧K (a.put oi.dst v) else K (a.put oi.dst undef)) (hi:ops[i]?=some oi:=by rfl) (hs:Region.noSelect ops=true:=by kernel_rfl) (hf:Region.free md ops listed i=true:=by kernel_rfl) (hr:(Region.ready md ops listed).contains i=true:=by kernel_rfl) (hQ:∀v c a w,Q (.panic c) (a.put oi.dst v) w→Q (.panic c) a w:=by exact fun _ _ _ _ h=>h):WQ (i::is) (jq P md ops Q (fuel+1) listed a w):=
 vJ i hi hs hf hr hQ h
theorem oJ (h:∀K:Act→Prop,(∀a',WQ is (dZ P md ops Q E fuel (listed.setIfInBounds i true) a' w)→K a')→if Region.wanted oi (yielded ops a.tmps) then∃v,(∀p:Regrown,Oper.quietUpon P (Ge (Gr w p)) (Gr w p) v ((execOp a.eval oi).run P (Gr w p)))∧K (a.put oi.dst v) else K (a.put oi.dst undef)) (hi:ops[i]?=some oi:=by rfl) (hs:Region.noSelect ops=true:=by kernel_rfl) (hf:Region.free md ops listed i=true:=by kernel_rfl) (hr:(Region.ready md ops listed).contains i=true:=by kernel_rfl) (hcl:nY md ops listed=true:=by kernel_rfl) (hE:(Lg md ops E 20).contains i=true:=by kernel_rfl) (hQ:∀v c a w,Q (.panic c) (a.put oi.dst v) w→Q (.panic c) a w:=by exact fun _ _ _ _ h=>h):WQ (i::is) (dZ P md ops Q E (fuel+1) listed a w):=
 sZ i 20 hi hs hf hr hcl hE hQ h
theorem tkF (h:∀K:Act→Prop,(∀a',WQ is (jc P md ops Q E fuel (listed.setIfInBounds i true) a' w)→K a')→if Region.wanted oi (yielded ops a.tmps) then∃v,(∀p:Regrown,Oper.quietUpon P (Ge (Gr w p)) (Gr w p) v ((execOp a.eval oi).run P (Gr w p)))∧K (a.put oi.dst v) else K (a.put oi.dst undef)) (hi:ops[i]?=some oi:=by rfl) (hs:Region.noSelect ops=true:=by kernel_rfl) (hf:Region.free md ops listed i=true:=by kernel_rfl) (hr:(Region.ready md ops listed).contains i=true:=by kernel_rfl) (hcl:nY md ops listed=true:=by kernel_rfl) (hE:(Lg md ops E 20).contains i=true:=by kernel_rfl) (hQ:∀v c a w,Q (.panic c) (a.put oi.dst v) w→Q (.panic c) a w:=by exact fun _ _ _ _ h=>h):WQ (i::is) (jc P md ops Q E (fuel+1) listed a w):=
 K7 i 20 hi hs hf hr hcl hE hQ h
theorem tkB (hb:b≤w.heap.size) (h:∀K:Act→Prop,(∀a',WQ is (iG P md ops Q E b fuel (listed.setIfInBounds i true) a' w)→K a')→if Region.wanted oi (yielded ops a.tmps) then∃v,(∀p:Und b w,Oper.quietUpon P (Ge p.x) p.x v ((execOp a.eval oi).run P p.x))∧K (a.put oi.dst v) else K (a.put oi.dst undef)) (hi:ops[i]?=some oi:=by rfl) (hs:Region.noSelect ops=true:=by kernel_rfl) (hf:Region.free md ops listed i=true:=by kernel_rfl) (hr:(Region.ready md ops listed).contains i=true:=by kernel_rfl) (hcl:nY md ops listed=true:=by kernel_rfl) (hE:(Lg md ops E 20).contains i=true:=by kernel_rfl) (hQ:∀v c a w,Q (.panic c) (a.put oi.dst v) w→Q (.panic c) a w:=by exact fun _ _ _ _ h=>h):WQ (i::is) (iG P md ops Q E b (fuel+1) listed a w):=
 KY i 20 hb hi hs hf hr hcl hE hQ h
end
namespace GR
open Go.RowKit
section
variable {α:Type} (enc:α→List Value) (sz:Nat)
def flat (l:List α):List Value:=l.flatMap enc
theorem flat_nil:flat enc []=[]:=rfl
theorem flat_cons (x:α) (r:List α):flat enc (x::r)=enc x++flat enc r:=rfl
theorem flat_append (l r:List α):flat enc (l++r)=flat enc l++flat enc r:=by simp[flat]
theorem flat_one (x:α):flat enc [x]=enc x:=by simp[flat]
theorem flat_length (h:∀x,(enc x).length=sz) (l:List α):(flat enc l).length=l.length*sz:=by
 induction l with
 |nil=>simp[flat]
 |cons x r ih=>rw [flat_cons,List.length_append,ih,h,List.length_cons,Nat.add_mul,Nat.one_mul,Nat.add_comm]
theorem flat_at (h:∀x,(enc x).length=sz):∀(l:List α) (i:Nat) (hi:i < l.length) (j:Nat),j < sz→(flat enc l)[i*sz+j]?=(enc l[i])[j]?:=by
 intro l;induction l with
 |nil=>intro i hi;simp at hi
 |cons x r ih=>
  intro i hi j hj
  rw [flat_cons]
  cases i with
  |zero=>
   rw [Nat.zero_mul,Nat.zero_add,List.getElem?_append_left (by rw [h];exact hj)]
   rfl
  |succ i=>
   have e:(i+1)*sz+j=sz+(i*sz+j):=by rw [Nat.add_mul,Nat.one_mul];omega
   rw [List.getElem?_append_right (by rw [h];omega),h,e,Nat.add_sub_cancel_left,ih i (by simpa using hi) j hj]
   rfl
def setRun (xs:List Value) (o:Nat):List Value→List Value
 |[]=>xs
 |v::vs=>setRun (xs.set o v) (o+1) vs
theorem setRun_append_right (a:List Value):∀(vs:List Value) (o:Nat) (b:List Value),setRun (a++b) (a.length+o) vs=a++setRun b o vs:=by
 intro vs;induction vs with
 |nil=>intro o b;rfl
 |cons v vs ih=>
  intro o b
  show setRun ((a++b).set (a.length+o) v) (a.length+o+1) vs=a++setRun (b.set o v) (o+1) vs
  rw [List.set_append_right _ _ (by omega),Nat.add_sub_cancel_left,Nat.add_assoc,ih]
theorem setRun_head:∀(vs a b:List Value),vs.length=a.length→setRun (a++b) 0 vs=vs++b:=by
 intro vs;induction vs with
 |nil=>intro a b h;have:a=[]:=List.eq_nil_of_length_eq_zero (by simpa using h.symm);subst this;rfl
 |cons v vs ih=>
  intro a b h
  cases a with
  |nil=>simp at h
  |cons y a=>
   show setRun (((y::a)++b).set 0 v) (0+1) vs=v::vs++b
   have e:((y::a)++b).set 0 v=[v]++(a++b):=rfl
   rw [e,Nat.zero_add]
   have h2:=setRun_append_right [v] vs 0 (a++b)
   simp only[List.length_singleton,Nat.add_zero] at h2
   rw [h2,ih a b (by simpa using h)]
   rfl
theorem flat_set (h:∀x,(enc x).length=sz):∀(l:List α) (i:Nat) (x:α),i < l.length→setRun (flat enc l) (i*sz) (enc x)=flat enc (l.set i x):=by
 intro l;induction l with
 |nil=>intro i x hi;simp at hi
 |cons y r ih=>
  intro i x hi
  cases i with
  |zero=>
   rw [Nat.zero_mul,flat_cons,setRun_head _ _ _ (by rw [h,h])]
   rfl
  |succ i=>
   have e:(i+1)*sz=(enc y).length+i*sz:=by rw [h,Nat.add_mul,Nat.one_mul,Nat.add_comm]
   rw [flat_cons,e,setRun_append_right _,ih i x (by simpa using hi)]
   rfl
def At (w:World) (a:Option Addr) (l:List α):Prop:=∀i (hi:i < l.length),∃g off,a=some ⟨g,off,none⟩∧g < w.heap.size∧∀j,j < sz→w.cell? ⟨g,off+(i*sz+j),none⟩=(enc l[i])[j]?
theorem At.below {enc:α→List Value} {sz:Nat} {w w':World} {a:Option Addr} {l:List α} (h:At enc sz w a l) (hb:Below w.heap.size w w'):At enc sz w' a l:=fun i hi=>by
 obtain⟨g,off,e,hg,hc⟩:=h i hi;exact⟨g,off,e,Nat.lt_of_lt_of_le hg hb.size,fun j hj=>(hb.cell (p:=⟨g,off+(i*sz+j),none⟩) hg).trans (hc j hj)⟩
theorem at_nil {w:World} {a:Option Addr}:At enc sz w a []:=fun i hi=>by simp at hi
def Blk (t:TypeId) (w:World) (g:Nat) (l:List α):Prop:=w.heap[g]?=some (.cells (flat enc l).toArray t (0,0))
theorem Blk.cell {enc:α→List Value} {sz:Nat} {t:TypeId} {w:World} {g:Nat} {l:List α} (h:Blk enc t w g l) (hs:∀x,(enc x).length=sz) (i:Nat) (hi:i < l.length) (j:Nat) (hj:j < sz):w.cell? ⟨g,i*sz+j,none⟩=(enc l[i])[j]?:=by
 rw [cell_of_row w g _ _ t (0,0) h];simpa using flat_at enc sz hs l i hi j hj
theorem Blk.free {enc:α→List Value} {t:TypeId} {w:World} {g:Nat} {l:List α} (h:Blk enc t w g l) (i:Nat):w.frozen? ⟨g,i,none⟩=false:=by
 unfold World.frozen?;rw [h];simp
theorem Blk.lt {enc:α→List Value} {t:TypeId} {w:World} {g:Nat} {l:List α} (h:Blk enc t w g l):g < w.heap.size:=by
 rcases Nat.lt_or_ge g w.heap.size with h'|h'
 ·exact h'
 ·rw [Blk,Array.getElem?_eq_none h'] at h;cases h
theorem Blk.at {enc:α→List Value} {sz:Nat} {t:TypeId} {w:World} {g:Nat} {l:List α} (h:Blk enc t w g l) (hs:∀x,(enc x).length=sz):At enc sz w (some ⟨g,0,none⟩) l:=fun i hi=>
 ⟨g,0,rfl,h.lt,fun j hj=>by rw [Nat.zero_add];exact h.cell hs i hi j hj⟩
def setW (w:World) (g o:Nat):List Value→World
 |[]=>w
 |v::vs=>setW (w.setCell ⟨g,o,none⟩ v) g (o+1) vs
theorem setW_blk:∀(vs:List Value) {w:World} {g o:Nat} {xs:List Value} {t:TypeId},w.heap[g]?=some (.cells xs.toArray t (0,0))→(setW w g o vs).heap[g]?=some (.cells (setRun xs o vs).toArray t (0,0)):=by
 intro vs;induction vs with
 |nil=>intro w g o xs t h;exact h
 |cons v vs ih=>
  intro w g o xs t h
  refine ih (xs:=xs.set o v) ?_
  unfold World.setCell
  simp only[Array.getElem?_modify]
  rw [if_pos trivial,h]
  simp
theorem Blk.set {enc:α→List Value} {sz:Nat} {t:TypeId} {w:World} {g:Nat} {l:List α} (h:Blk enc t w g l) (hs:∀x,(enc x).length=sz) (i:Nat) (hi:i < l.length) (x:α):Blk enc t (setW w g (i*sz) (enc x)) g (l.set i x):=by
 have h2:=setW_blk (enc x) (o:=i*sz) h;rw [flat_set enc sz hs l i x hi] at h2;exact h2
theorem setW_below {B:Nat} {a:World} {g:Nat} (hg:B≤g):∀(vs:List Value) {w:World} {o:Nat},Below B a w→Below B a (setW w g o vs):=by
 intro vs;induction vs with
 |nil=>intro w o h;exact h
 |cons v vs ih=>intro w o h;exact ih (h.setCell (p:=⟨g,o,none⟩) hg v)
theorem setW_other {g g':Nat} (hne:g'≠g):∀(vs:List Value) {w:World} {o:Nat},(setW w g o vs).heap[g']?=w.heap[g']?:=by
 intro vs;induction vs with
 |nil=>intro w o;rfl
 |cons v vs ih=>intro w o;exact(ih (w:=w.setCell ⟨g,o,none⟩ v)).trans (Below.heap_setCell _ _ _ _ hne)
theorem made_flat (h:∀x,(enc x).length=sz) (hz:0 < sz) (x:α) (z:Array Value) (he:z.toList=enc x) (n:Nat):madeCells z (n*sz)=(flat enc (List.replicate n x)).toArray:=by
 have hzs:z.size=sz:=by rw [←Array.length_toList,he,h]
 apply Array.ext_getElem?
 intro k;by_cases hk:k < n*sz
 ·have hq:k / sz < n:=Nat.div_lt_of_lt_mul (by rw [Nat.mul_comm];exact hk);have hr:k % sz < sz:=Nat.mod_lt _ hz;have hf:=flat_at enc sz h (List.replicate n x) (k / sz) (by simpa using hq) (k % sz) hr;have ek:k / sz*sz+k % sz=k:=Nat.div_add_mod' k sz;rw [ek] at hf;have h1:(madeCells z (n*sz))[k]?=some (z[k % z.size]!):=by simp[madeCells,hk]
  rw [h1,hzs]
  have h2:(flat enc (List.replicate n x)).toArray[k]?=(enc x)[k % sz]?:=by
   rw [List.getElem?_toArray,hf];simp
  rw [h2,←he];have h3:k % sz < z.size:=by omega
  rw [getElem!_pos z (k % sz) h3,Array.getElem?_toList,Array.getElem?_eq_getElem h3]
 ·have h1:(madeCells z (n*sz)).size≤k:=by simp[madeCells];omega
  have h2:(flat enc (List.replicate n x)).toArray.size≤k:=by
   rw [List.size_toArray,flat_length enc sz h];simp;omega
  rw [Array.getElem?_eq_none h1,Array.getElem?_eq_none h2]
theorem own_at {enc:α→List Value} {sz:Nat} {w:World} {base:Nat} {e:TypeId} {v:Value} {l:List α} (hs:∀x,(enc x).length=sz) (h:w.ownsRow base e sz v l.length (flat enc l)):∃a cap,v= .slice a l.length cap∧At enc sz w a l:=by
 rcases h.2 with⟨rfl,hn⟩|⟨g,cap,cur,rfl,hg,hblk,_⟩
 ·exact⟨none,0,by rw [hn],fun i hi=>by omega⟩
 ·refine⟨_,cap,rfl,fun i hi=>⟨g,0,rfl,?_,fun j hj=>?_⟩⟩
  ·rcases Nat.lt_or_ge g w.heap.size with h'|h'
   ·exact h'
   ·rw [Array.getElem?_eq_none h'] at hblk;cases hblk
  ·have hf:=flat_at enc sz hs l i hi j hj;have hj':j < (enc l[i]).length:=by rw [hs];exact hj
   rw [List.getElem?_eq_getElem hj'] at hf ⊢;have:=h.cells rfl (i*sz+j) _ hf;have ea:(⟨g,0,none⟩:Addr).add (i*sz+j)=⟨g,0+(i*sz+j),none⟩:=by unfold Addr.add;split<;>simp_all
   rw [ea] at this;exact this
end
end GR
namespace Mth
structure Pu where
 k:ByteArray
 m:Int
 f:Int
 s:Int
instance:Inhabited Pu:=⟨⟨ByteArray.empty,0,0,0⟩⟩
abbrev eG (p:Pu):List Value:=[.string p.k,.int .i64 p.m,.int .i64 p.f,.int .i64 p.s]
abbrev wY (p:Pu):Value:= .agg #[.string p.k,.int .i64 p.m,.int .i64 p.f,.int .i64 p.s]
theorem aV (p:Pu):(eG p).length=4:=rfl
def sle (a b:ByteArray):Bool:=Op.bytesLess a.toList b.toList||a.toList == b.toList
def nS (n:Int):Bool:=decide (0≤n∧n≤1000000000)
def fT (p:Pu):Bool:=keyOk p.k.data.toList&&nS p.m&&nS p.f&&nS p.s&&nS (p.f+p.s)
def jA (l:List Pu) (i:Nat):Bool:=fT (l.getD i default)&&(i == 0|| !sle (l.getD i default).k (l.getD (i - 1) default).k)
def iB (l:List Pu):Bool:=(List.range l.length).all (jA l)&&decide (l.length≤20)
theorem kV (f:Nat→Bool) (k:Nat):(List.range (k+1)).all f=((List.range k).all f&&f k):=by
 rw [List.range_succ,List.all_append];simp
theorem gV {l:List Pu} {i:Nat} (hi:i < l.length) (h:jA l i=false):iB l=false:=by
 unfold iB
 have:(List.range l.length).all (jA l)=false:=by
  rw [List.all_eq_false];exact⟨i,List.mem_range.2 hi,by rw [h];simp⟩
 rw [this];rfl
theorem QD {l:List Pu} (h:(List.range l.length).all (jA l)=true):iB l=decide (l.length≤20):=by unfold iB;rw [h];rfl
def aG (l:List Pu) (k:ByteArray):Pu:=(l.find? fun p=>p.k.toList == k.toList).getD ⟨k,0,0,0⟩
theorem Et (f:Pu→Bool) (l:List Pu) (i:Nat) (hi:i < l.length) (h:(l.take i).find? f=none):(f l[i]=true→l.find? f=some l[i])∧(f l[i]=false→(l.take (i+1)).find? f=none):=by
 exact aqM
theorem getD_at (l:List Pu) (i:Nat) (hi:i < l.length):l.getD i default=l[i]:=by rw [List.getD_eq_getElem?_getD,List.getElem?_eq_getElem hi];rfl
end Mth
theorem pz (x a b:Int) (w:World) (h1:a≤x) (h2:x≤b):Calls Tryz.prog 23 #[.int .i64 x,.int .i64 a,.int .i64 b] w fun e w'=>e= .returned (.bool true)∧w=w':=by
 exact TQ
theorem Qt (x a b:Int) (w:World) (h1:x < a):Calls Tryz.prog 23 #[.int .i64 x,.int .i64 a,.int .i64 b] w fun e w'=>e= .returned (.bool false)∧w=w':=by
 have h2:¬a≤x:=by omega
 exact TQ
theorem MR (x a b:Int) (w:World) (h1:a≤x) (h3:b < x):Calls Tryz.prog 23 #[.int .i64 x,.int .i64 a,.int .i64 b] w fun e w'=>e= .returned (.bool false)∧w=w':=by
 have h2:¬x≤b:=by omega
 exact TQ
theorem su (x a b:Int) (w:World) (h:x < a∨b < x):Calls Tryz.prog 23 #[.int .i64 x,.int .i64 a,.int .i64 b] w fun e w'=>e= .returned (.bool false)∧w=w':=by
 by_cases h1:x < a
 ·exact Qt x a b w h1
 ·exact MR x a b w (by omega) (by omega)
set_option maxHeartbeats 1000000
set_option maxRecDepth 100000
theorem EK (s:ByteArray) (w:World) (hs:s.size≤maxLen):
 Calls Tryz.prog 25 #[.string s] w fun e w'=>e= .returned (.bool (Mth.keyOk s.data.toList))∧w=w':=by
 unfold maxLen at hs;go_enter Tryz.func25,Tryz.ntmps25
 go_wp2
 go_loop [3] (fun i=>∃k:Nat,k≤s.size∧i= .int .i64 k∧(s.data.toList.take k).all Mth.keyByte=true) (fun i=>s.size - (intOf i).toNat)
 case atStart=>exact⟨0,Nat.zero_le _,rfl,rfl⟩
 case round=>
  obtain⟨k,hk,rfl,hall⟩:=hrel;have HA:=hide hall;clear hall;by_cases hlt:k < s.size
  ·open aml in exact aas
  ·open aoI in exact abf
theorem EJ (n:Int) (w:World) (h1:97≤n) (h2:n≤122):Calls Tryz.prog 99 #[.int .u8 n] w fun e w'=>e= .returned (.bool true)∧w=w':=by
 exact TL
theorem Kg (n:Int) (w:World) (h:n < 97∨122 < n):Calls Tryz.prog 99 #[.int .u8 n] w fun e w'=>e= .returned (.bool false)∧w=w':=by
 by_cases h1:97≤n
 ·have h2:¬n≤122:=by omega
  clear h;exact TL
 ·clear h;exact TL
theorem Es (n:Int) (w:World) (h1:48≤n) (h2:n≤57):Calls Tryz.prog 100 #[.int .u8 n] w fun e w'=>e= .returned (.bool true)∧w=w':=by
 exact TK
theorem Jg (n:Int) (w:World) (h:n < 48∨57 < n):Calls Tryz.prog 100 #[.int .u8 n] w fun e w'=>e= .returned (.bool false)∧w=w':=by
 by_cases h1:48≤n
 ·have h2:¬n≤57:=by omega
  clear h;exact TK
 ·clear h;exact TK
set_option maxHeartbeats 1000000
theorem Ey (s:ByteArray) (w:World):
 Calls Tryz.prog 71 #[.string s] w fun e w'=>e= .returned (.bool (Mth.keyOk s.data.toList))∧w=w':=by
 by_cases hlen:(1:Int)≤(s.size:Int)∧(s.size:Int)≤10
 ·obtain⟨hs1,hs2⟩:=hlen;have hne:s.toList.isEmpty=false:=yO s (by omega);have h10:decide (10 < (s.size:Int))=false:=by simp;omega
  go_enter Tryz.func71,Tryz.ntmps71
  go_wp2
  go_loop [13] (fun i=>∃k:Nat,k≤s.size∧i= .int .i64 k∧(s.data.toList.take k).all Mth.keyByte=true) (fun i=>s.size - (intOf i).toNat)
  case atStart=>exact⟨0,Nat.zero_le _,rfl,rfl⟩
  case round=>
   obtain⟨k,hk,rfl,hall⟩:=hrel;have HA:=hide hall;clear hall;by_cases hlt:k < s.size
   ·open amm in exact aas
   ·open aoJ in exact abf
 ·have HF:Hid (Mth.keyOk s.data.toList=false):=Mth.keyOk_len _ (by rw [iq];omega);by_cases h0:s.size=0
  ·have he:s=ByteArray.empty:=eq_empty s h0;subst he;exact ab9
  ·have hne:s.toList.isEmpty=false:=yO s (by omega);have h10:10 < (s.size:Int):=by omega
   exact ab9
namespace Mth
structure Mg where
 K:Int
 F:Int
 T:Int
 I:Int
 L:Int
 k:ByteArray
 N:Int
abbrev qd (m:Mg):Value:= .agg #[.int .i64 m.K,.int .i64 m.F,.int .i64 m.T,.int .i64 m.I,.int .i64 m.L,.string m.k,.int .i64 m.N]
def pE (n:Int):Bool:=decide (0≤n∧n≤29)
def eU (n:Int):Bool:=decide (1≤n∧n≤1000000000)
def lI (f t:Int):Bool:=pE f&&pE t&&decide (f≠t)
def dw (m:Mg):Bool:=
 lI m.F m.T&&
  (if m.K=0 then keyOk m.k.data.toList&&eU m.N&&decide (m.I=0)&&decide (m.L=0)
   else if m.K=1 then keyOk m.k.data.toList&&eU m.N&&eU m.I&&decide (1≤m.L∧m.L≤m.I)
   else if m.K=2 then eU m.I&&decide (m.k.size=0)&&decide (m.N=0)&&decide (m.L=0)
   else false)
end Mth
open Mth
theorem wp_at {P:Program} {Q:Exit→Act→World→Prop} {c:Code} {a:Act} {W:World} (h:∀W',W'=W→Code.wp P c Q a W'):Code.wp P c Q a W:=h W rfl
theorem ay (w:World) (o:Obj):Below w.heap.size w (w.alloc o):=(Below.refl _ _).alloc (Nat.le_refl _) _
theorem EH {p:Prop} [Decidable p] (h:¬p):Ending.returned (.bool false)= .returned (.bool (decide p)):=by rw [decide_eq_false h]
theorem OY {p q:Prop} [Decidable p] [Decidable q] (h:p↔q):Ending.returned (.bool (decide p))= .returned (.bool (decide q)):=by rw [decide_eq_decide.2 h]
theorem qC (x a b:Int) (r:Bool) (w:World) (h:decide (a≤x∧x≤b)=r):Calls Tryz.prog 23 #[.int .i64 x,.int .i64 a,.int .i64 b] w fun e w'=>e= .returned (.bool r)∧w=w':=by
 subst h;by_cases h:a≤x∧x≤b
 ·rw [decide_eq_true h];exact pz x a b w h.1 h.2
 ·rw [decide_eq_false h];exact su x a b w (by omega)
theorem jS (n:Int) (r:Bool) (w:World) (h:pE n=r):Calls Tryz.prog 53 #[.int .i64 n] w fun e w'=>e= .returned (.bool r)∧w=w':=by
 go_enter Tryz.func53,Tryz.ntmps53
 exact abW
theorem dW (n:Int) (r:Bool) (w:World) (h:eU n=r):Calls Tryz.prog 21 #[.int .i64 n] w fun e w'=>e= .returned (.bool r)∧w=w':=by
 go_enter Tryz.func21,Tryz.ntmps21
 exact abW
theorem isNode (n:Int) (r:Bool) (w:World) (h:pE n=r):Calls Tryz.prog 68 #[.int .i64 n] w fun e w'=>e= .returned (.bool r)∧w=w':=by
 subst h;by_cases h0:0≤n
 ·go_enter Tryz.func68,Tryz.ntmps68
  go_wp2
  go_ret;exact⟨OY (by omega),rfl⟩
 ·go_enter Tryz.func68,Tryz.ntmps68
  go_wp2
  go_ret;exact⟨EH (by omega),rfl⟩
theorem aS (n:Int) (r:Bool) (w:World) (h:eU n=r):Calls Tryz.prog 40 #[.int .i64 n] w fun e w'=>e= .returned (.bool r)∧w=w':=by
 subst h;by_cases h0:1≤n
 ·go_enter Tryz.func40,Tryz.ntmps40
  go_wp2
  go_ret;exact⟨OY (by omega),rfl⟩
 ·go_enter Tryz.func40,Tryz.ntmps40
  go_wp2
  go_ret;exact⟨EH (by omega),rfl⟩
theorem gJ (s:ByteArray) (b:Bool) (w:World) (h:keyOk s.data.toList=b):Calls Tryz.prog 71 #[.string s] w fun e w'=>e= .returned (.bool b)∧w=w':=by
 rw [←h];exact Ey s w
theorem lD (s:ByteArray) (b:Bool) (w:World) (hs:s.size≤maxLen) (h:keyOk s.data.toList=b):Calls Tryz.prog 25 #[.string s] w fun e w'=>e= .returned (.bool b)∧w=w':=by
 rw [←h];exact EK s w hs
namespace Mth
structure jH where
 i:Int
 t:Int
 k:ByteArray
 n:Int
structure Sn where
 f:Int
 l:Int
 ids:List Int
structure Rq where
 no:Int
 k:ByteArray
 n:Int
 s:Int
structure Nd where
 id:Int
 par:Int
 kids:List Int
 next:Int
 pu:List Pu
 out:List jH
 seen:List Sn
 old:Int
 reqs:List Rq
instance:Inhabited jH:=⟨⟨0,0,ByteArray.empty,0⟩⟩
instance:Inhabited Sn:=⟨⟨0,0,[]⟩⟩
instance:Inhabited Rq:=⟨⟨0,ByteArray.empty,0,0⟩⟩
abbrev aP (x:Int):List Value:=[.int .i64 x]
abbrev aU (s:jH):List Value:=[.int .i64 s.i,.int .i64 s.t,.string s.k,.int .i64 s.n]
abbrev aJ (r:Rq):List Value:=[.int .i64 r.no,.string r.k,.int .i64 r.n,.int .i64 r.s]
theorem aN (x:Int):(aP x).length=1:=rfl
theorem cu (x:jH):(aU x).length=4:=rfl
theorem aY (x:Rq):(aJ x).length=4:=rfl
def gH {α:Type} (p:α→Bool) (r:α→α→Bool):List α→Bool
 |[]=>true
 |[x]=>p x
 |x::y::l=>p x&&r x y&&gH p r (y::l)
section
variable {α:Type} (p:α→Bool) (r:α→α→Bool)
theorem mE (x:α) (l:List α):gH p r (x::l)=(p x&&(match l.head? with|none=>true|some y=>r x y)&&gH p r l):=by
 cases l with
 |nil=>simp[gH]
 |cons y l=>simp[gH]
theorem Jd (l:List α) (x:α):gH p r (l++[x])=(gH p r l&&(p x&&(match l.getLast? with|none=>true|some y=>r y x))):=by
 induction l with
 |nil=>simp[gH]
 |cons y l ih=>
  rw [List.cons_append,mE,ih,mE]
  cases l with
  |nil=>simp[gH,Bool.and_comm,Bool.and_left_comm]
  |cons z l=>simp[Bool.and_assoc]
theorem Mf (l m:List α):gH p r (l++m)=true→gH p r l=true:=by
 induction l with
 |nil=>simp[gH]
 |cons y l ih=>
  intro h
  rw [List.cons_append,mE] at h
  rw [mE]
  simp only[Bool.and_eq_true] at h ⊢
  refine⟨⟨h.1.1,?_⟩,ih h.2⟩
  cases l with
  |nil=>simp
  |cons z l=>simpa using h.1.2
theorem oN (l:List α) (h:0 < l.length):gH p r (l.take 1)=p l[0]:=by
 match l,h with
 |x::l,_=>simp[gH]
theorem rU (l:List α) (k:Nat) (h:k+1 < l.length):gH p r (l.take (k+2))=(gH p r (l.take (k+1))&&(p l[k+1]&&r l[k] l[k+1])):=by
 rw [List.take_succ_eq_append_getElem h,Jd]
 have e:(l.take (k+1)).getLast?=some l[k]:=by
  rw [List.take_succ_eq_append_getElem (by omega),List.getLast?_append];simp
 rw [e]
theorem mY (l:List α) (k:Nat) (h:gH p r (l.take k)=false):gH p r l=false:=by
 cases hc:gH p r l with
 |false=>rfl
 |true=>
  rw [←List.take_append_drop k l] at hc
  rw [Mf p r _ _ hc] at h
  cases h
end
def iP (id par x:Int):Bool:=pE x&&decide (x≠id)&&decide (x≠par)
def gU (x y:Int):Bool:=decide (x < y)
def dx (n:Nd):Bool:=pE n.id&&decide (-1≤n.par∧n.par≤29)&&decide (n.par≠n.id)&&decide (n.kids.length≤30)&&gH (iP n.id n.par) gU n.kids
def hasB (l:List Int) (x:Int):Bool:=l.any fun y=>decide (y=x)
def dH (n:Nd) (x:Int):Bool:=(decide (0≤x)&&decide (x=n.par))||hasB n.kids x
def xU (low x:Int):Bool:=decide (low≤x∧x≤1000000000)
def rM (s:Sn):Bool:=eU s.l&&decide (s.ids.length≤40)&&gH (xU s.l) gU s.ids
def mJ (n:Nd):Bool:=decide ((n.seen.length:Int)=n.kids.length+(if 0≤n.par then 1 else 0))&&gH (fun s=>dH n s.f&&rM s) (fun s t=>gU s.f t.f) n.seen
def rJ (n:Nd) (o:jH):Bool:=decide (1≤o.i∧o.i≤n.next - 1)&&dH n o.t&&keyOk o.k.data.toList&&eU o.n
def pR (n:Nd) (q:Rq):Bool:=decide (n.old+1≤q.no∧q.no≤1000000000)&&keyOk q.k.data.toList&&eU q.n&&decide (0≤q.s∧q.s≤2)
def pJ (n:Nd):Bool:=decide (n.out.length≤40)&&gH (rJ n) (fun s t=>gU s.i t.i) n.out
def gF (n:Nd):Bool:=nS n.old&&decide (n.reqs.length≤30)&&gH (pR n) (fun s t=>gU s.no t.no) n.reqs
def dJ (n:Nd):Bool:=dx n&&iB n.pu&&mJ n&&eU n.next&&pJ n&&gF n
end Mth
def tC (x a b:Int):Prop:=a≤x∧x≤b
instance (x a b:Int):Decidable (tC x a b):=by unfold tC;infer_instance
theorem F9 (x a b:Int) (w:World):Calls Tryz.prog 23 #[.int .i64 x,.int .i64 a,.int .i64 b] w fun e w'=>e= .returned (.bool (decide (tC x a b)))∧w=w':=by
 by_cases h:tC x a b
 ·rw [decide_eq_true h];exact pz x a b w h.1 h.2
 ·rw [decide_eq_false h];exact su x a b w (by unfold tC at h;omega)
theorem oZ (n:Int) (w:World):Calls Tryz.prog 22 #[.int .i64 n] w fun e w'=>e= .returned (.bool (decide (tC n 0 1000000000)))∧w=w':=by
 go_enter Tryz.func22,Tryz.ntmps22
 go_wp2_with (go_at_call 23;refine(F9 _ _ _ _).mono ?_;rintro e w1 ⟨rfl,rfl⟩)
 go_ret;exact⟨rfl,rfl⟩
set_option maxHeartbeats 4000000
abbrev aH (w:World) (a:Option Addr) (l:List Pu):Prop:=GR.At eG 4 w a l
theorem aH.four {w:World} {a:Option Addr} {l:List Pu} (h:aH w a l) (i:Nat) (hi:i < l.length):∃g off,a=some ⟨g,off,none⟩∧g < w.heap.size∧w.cell? ⟨g,off+i*4,none⟩=some (.string l[i].k)∧w.cell? ⟨g,off+i*4+1,none⟩=some (.int .i64 l[i].m)∧w.cell? ⟨g,off+i*4+2,none⟩=some (.int .i64 l[i].f)∧w.cell? ⟨g,off+i*4+3,none⟩=some (.int .i64 l[i].s):=by
 exact adB
theorem nu (s:ByteArray) (b:Bool) (hs:s.size≤maxLen) (hb:keyOk s.data.toList=b) (W:World) (n:Nat):Calls Tryz.prog 25 #[.string s] (W.drewN n) fun e w''=>e= .returned (.bool b)∧∃m,w''=W.drewN m:=by
 rw [←hb];exact(EK s _ hs).mono fun e w' ⟨he,hw⟩=>⟨he,n,hw.symm⟩
theorem fI (x:Int) (b:Bool) (hb:decide (tC x 0 1000000000)=b) (W:World) (n:Nat):Calls Tryz.prog 22 #[.int .i64 x] (W.drewN n) fun e w''=>e= .returned (.bool b)∧∃m,w''=W.drewN m:=by
 rw [←hb];exact(oZ x _).mono fun e w' ⟨he,hw⟩=>⟨he,n,hw.symm⟩
theorem jC (a:Option Addr) (cap:Nat) (l:List Pu) (w:World) (hl:l.length≤1048600) (hk:∀p∈l,p.k.size≤maxLen) (ha:aH w a l):
 Calls Tryz.prog 19 #[.slice a l.length cap] w fun e w'=>e= .returned (.bool (iB l))∧Below w.heap.size w w':=by
 have HA:=hide ha;have HK:=hide hk;clear ha hk;go_enter Tryz.func19,Tryz.ntmps19
 go_wp2_with fail;go_loopw [3] (fun i wr=>∃k:Nat,k≤l.length∧i= .int .i64 k∧(List.range k).all (jA l)=true∧Below w.heap.size w wr) (fun i _=>l.length - (intOf i).toNat)
 case atStart=>exact Ua
 case round=>
  obtain⟨k,hk,rfl,hall,hbel⟩:=hrel;have fG:=hide hbel;have kQ:=hide hall;clear hall hbel;by_cases hlt:k < l.length
  ·have hks:=ah HK l[k] (List.getElem_mem hlt);open aii in exact apX
  ·exact aqR
set_option maxHeartbeats 2000000
theorem ou (a:Option Addr) (cap:Nat) (l:List Pu) (key:ByteArray) (w:World) (hl:l.length≤1048600) (ha:aH w a l):
 Calls Tryz.prog 89 #[.slice a l.length cap,.string key] w fun e w'=>e= .returned (wY (aG l key))∧Below w.heap.size w w':=by
 have HA:=hide ha;clear ha;go_enter Tryz.func89,Tryz.ntmps89
 go_wp2_with fail;go_loopw [5] (fun i wr=>∃k:Nat,k≤l.length∧i= .int .i64 k∧(l.take k).find? (fun p=>p.k.toList == key.toList)=none∧wr=w.alloc (.cells #[.string ⟨#[]⟩,.int .i64 0,.int .i64 0,.int .i64 0] 84)) (fun i _=>l.length - (intOf i).toNat)
 case atStart=>exact⟨0,Nat.zero_le _,rfl,rfl,rfl⟩
 case round=>
  obtain⟨k,hk,rfl,hnone,rfl⟩:=hrel;have HN:=hide hnone;clear hnone;by_cases hlt:k < l.length
  ·obtain⟨g,off,rfl,hgw,c0,c1,c2,c3⟩:=aH.four HA k hlt;have hfs:=Et (fun p=>p.k.toList == key.toList) l k hlt HN;cases hf:l[k].k.toList == key.toList
   ·have HX:=hide (hfs.2 hf);clear hfs HN;open aoR in exact Tt
   ·have HX:=hide (show aG l key=l[k] by unfold aG;rw [hfs.1 hf];rfl);clear hfs HN;open aoQ in exact Tt
  ·open aiY in exact Fj
theorem eZ {w:World} {g:Nat} {a0 a1 a2 a3:Value} {t:TypeId} (h:w.heap[g]?=some (.cells #[a0,a1,a2,a3] t (0,0))):
 (w.cell? ⟨g,0,none⟩=some a0∧w.cell? ⟨g,1,none⟩=some a1∧w.cell? ⟨g,2,none⟩=some a2∧w.cell? ⟨g,3,none⟩=some a3)∧(w.frozen? ⟨g,0,none⟩=false∧w.frozen? ⟨g,1,none⟩=false∧w.frozen? ⟨g,2,none⟩=false∧w.frozen? ⟨g,3,none⟩=false):=by
 have hc:∀i,w.cell? ⟨g,i,none⟩=#[a0,a1,a2,a3][i]?:=fun i=>cell_of_row w g i _ t (0,0) h
 have hf:∀i,w.frozen? ⟨g,i,none⟩=false:=fun i=>by unfold World.frozen?;rw [h];simp
 exact⟨⟨hc 0,hc 1,hc 2,hc 3⟩,hf 0,hf 1,hf 2,hf 3⟩
theorem dA (w:World) (o:Obj):Below w.heap.size w (w.alloc o):=(Below.refl _ _).alloc (Nat.le_refl _) _
theorem yK:(Tryz.prog.info? 84).map (fun i=>(i.zero,i.size,i.bytes))=some (some (.agg #[.string ByteArray.empty,.int .i64 0,.int .i64 0,.int .i64 0]),4,40):=by kernel_rfl
theorem aH.news {w:World} {x:Addr} {l:List Pu} (h:aH w (some x) l):∀j u,(GR.flat eG l)[j]?=some u→w.cell? (x.add j)=some u:=by
 intro j u hu
 have hj:j < l.length*4:=by
  have:=(List.getElem?_eq_some_iff.1 hu).1;rwa [GR.flat_length eG 4 aV] at this
 obtain⟨g,off,e,hg,hc⟩:=h (j / 4) (by omega);have hf:=GR.flat_at eG 4 aV l (j / 4) (by omega) (j % 4) (by omega);have ej:j / 4*4+j % 4=j:=by omega
 rw [ej] at hf;have h2:=hc (j % 4) (by omega);exact abB
theorem wm (l:List Pu):∀u∈GR.flat eG l,u.oneCell'=true:=by
 intro u hu;unfold GR.flat at hu;rw [List.mem_flatMap] at hu;obtain⟨p,_,hp⟩:=hu;simp only[eG,List.mem_cons,List.not_mem_nil,or_false] at hp;rcases hp with rfl|rfl|rfl|rfl<;>rfl
abbrev sJ (w:World) (g:Nat) (l:List Pu):Prop:=GR.Blk eG 84 w g l
theorem sJ.four {w:World} {g:Nat} {l:List Pu} (h:sJ w g l) (i:Nat) (hi:i < l.length):w.cell? ⟨g,i*4,none⟩=some (.string l[i].k)∧w.cell? ⟨g,i*4+1,none⟩=some (.int .i64 l[i].m)∧w.cell? ⟨g,i*4+2,none⟩=some (.int .i64 l[i].f)∧w.cell? ⟨g,i*4+3,none⟩=some (.int .i64 l[i].s):=
 ⟨by simpa using GR.Blk.cell h aV i hi 0 (by omega),by simpa using GR.Blk.cell h aV i hi 1 (by omega),by simpa using GR.Blk.cell h aV i hi 2 (by omega),by simpa using GR.Blk.cell h aV i hi 3 (by omega)⟩
theorem OI {w w':World} {g:Nat} {l:List Pu} (h:sJ w g l) (hb:Below w.heap.size w w'):sJ w' g l:=by
 have hl:=GR.Blk.lt h;unfold sJ GR.Blk at *;rw [hb.block g hl];exact h
theorem JR (n:Nat) (hn:n≤2000000):∀W:World,(Instr.makeSlice 25 (.int .i64 (n:Int)) (.int .i64 (n:Int))).run Tryz.prog W= .ok (.slice (some ⟨W.heap.size,0,none⟩) n n) (W.alloc (.cells (GR.flat eG (List.replicate n ⟨ByteArray.empty,0,0,0⟩)).toArray 84)):=by
 obtain⟨i0,hi,hz0,hz1,hz2⟩:=info_parts yK;intro W;have h:=run_make (P:=Tryz.prog) W 25 84 i0 (.agg #[.string ByteArray.empty,.int .i64 0,.int .i64 0,.int .i64 0]) Tryz.underlying25 hi hz0 .i64 .i64 (n:Int) (n:Int) (by omega) (by omega) (by rw [hz2];omega) (by omega);rw [hz1] at h;have e:=GR.made_flat eG 4 aV (by omega) ⟨ByteArray.empty,0,0,0⟩ (Value.agg #[.string ByteArray.empty,.int .i64 0,.int .i64 0,.int .i64 0]).cells rfl n;simp only[Int.toNat_natCast] at h;rw [e] at h;exact h
theorem KJ (l:List Pu) (z:Pu) (k:Nat) (hk:k < l.length):(l.take k++List.replicate (l.length - k) z).set k l[k]=l.take (k+1)++List.replicate (l.length - (k+1)) z:=by
 have hlen:(l.take k).length=k:=by simp;omega
 rw [List.set_append_right _ _ (by omega),hlen,Nat.sub_self];have e:l.length - k=(l.length - (k+1))+1:=by omega
 rw [e,List.replicate_succ,List.take_succ_eq_append_getElem hk,List.append_assoc];rfl
abbrev dM (w:World) (a:Option Addr) (l:List Int):Prop:=GR.At aP 1 w a l
theorem dM.one {w:World} {a:Option Addr} {l:List Int} (h:dM w a l) (i:Nat) (hi:i < l.length):∃g off,a=some ⟨g,off,none⟩∧g < w.heap.size∧w.cell? ⟨g,off+i,none⟩=some (.int .i64 l[i]):=by
 obtain⟨g,off,e,hg,hc⟩:=h i hi;refine⟨g,off,e,hg,?_⟩;simpa using hc 0 (by omega)
abbrev uS (w:World) (g:Nat) (l:List Int):Prop:=GR.Blk aP 3 w g l
theorem uS.one {w:World} {g:Nat} {l:List Int} (h:uS w g l) (i:Nat) (hi:i < l.length):w.cell? ⟨g,i,none⟩=some (.int .i64 l[i]):=by
 simpa using GR.Blk.cell h aN i hi 0 (by omega)
theorem uS.step {w w':World} {g:Nat} {l:List Int} (h:uS w g l) (hb:Below w.heap.size w w'):uS w' g l:=by
 have hl:=GR.Blk.lt h;unfold uS GR.Blk at *;rw [hb.block g hl];exact h
theorem qA:(Tryz.prog.info? 3).map (fun i=>(i.zero,i.size,i.bytes))=some (some (.int .i64 0),1,8):=by kernel_rfl
abbrev SentAt (w:World) (a:Option Addr) (l:List jH):Prop:=GR.At aU 4 w a l
abbrev ZE (p:jH):Value:= .agg #[.int .i64 p.i,.int .i64 p.t,.string p.k,.int .i64 p.n]
theorem SentAt.four {w:World} {a:Option Addr} {l:List jH} (h:SentAt w a l) (i:Nat) (hi:i < l.length):∃g off,a=some ⟨g,off,none⟩∧g < w.heap.size∧w.cell? ⟨g,off+i*4,none⟩=some (.int .i64 l[i].i)∧w.cell? ⟨g,off+i*4+1,none⟩=some (.int .i64 l[i].t)∧w.cell? ⟨g,off+i*4+2,none⟩=some (.string l[i].k)∧w.cell? ⟨g,off+i*4+3,none⟩=some (.int .i64 l[i].n):=by
 exact adB
abbrev tF (w:World) (g:Nat) (l:List jH):Prop:=GR.Blk aU 55 w g l
theorem tF.four {w:World} {g:Nat} {l:List jH} (h:tF w g l) (i:Nat) (hi:i < l.length):w.cell? ⟨g,i*4,none⟩=some (.int .i64 l[i].i)∧w.cell? ⟨g,i*4+1,none⟩=some (.int .i64 l[i].t)∧w.cell? ⟨g,i*4+2,none⟩=some (.string l[i].k)∧w.cell? ⟨g,i*4+3,none⟩=some (.int .i64 l[i].n):=
 ⟨by simpa using GR.Blk.cell h cu i hi 0 (by omega),by simpa using GR.Blk.cell h cu i hi 1 (by omega),by simpa using GR.Blk.cell h cu i hi 2 (by omega),by simpa using GR.Blk.cell h cu i hi 3 (by omega)⟩
theorem tF.step {w w':World} {g:Nat} {l:List jH} (h:tF w g l) (hb:Below w.heap.size w w'):tF w' g l:=by
 have hl:=GR.Blk.lt h;unfold tF GR.Blk at *;rw [hb.block g hl];exact h
theorem JD:(Tryz.prog.info? 55).map (fun i=>(i.zero,i.size,i.bytes))=some (some (.agg #[.int .i64 0,.int .i64 0,.string ByteArray.empty,.int .i64 0]),4,40):=by kernel_rfl
end Go.Proofs.YtfmdndhliinhpaaGreatDoor
