/- Parts. -/
import Derived.Test.YtacgbldlonoaaaaGreatDoorRa1
namespace Go.Proofs.YtacgbldlonoaaaaGreatDoor
open Go.RowKit
section
variable {P:Program} {ops:Array Oper} {Q:Exit→Act→World→Prop} {md:Region.Mode} {E b:Nat} {is:List Nat} {i:Nat} {oi:Oper} {fuel:Nat} {listed:Array Bool} {a:Act} {w:World}
def Ub (_:List Nat) (p:Prop):Prop:=p
theorem tk (is:List Nat) {p:Prop} (h:Ub is p):p:=h
theorem jI {p:Prop} (h:p):Ub [] p:=h
theorem Pq (h:∀K:Act→Prop,(∀a',Ub is (iX P md ops Q fuel (listed.setIfInBounds i true) a' w)→K a')→if Region.wanted oi (yielded ops a.tmps) then∃v,(∀p:Regrown,Oper.quietUpon P (Ge (Gr w p)) (Gr w p) v ((execOp a.eval oi).run P (Gr w p)))∧K (a.put oi.dst v) else K (a.put oi.dst undef)) (hi:ops[i]?=some oi:=by rfl) (hs:Region.noSelect ops=true:=by kernel_rfl) (hf:Region.free md ops listed i=true:=by kernel_rfl) (hr:(Region.ready md ops listed).contains i=true:=by kernel_rfl) (hQ:∀v c a w,Q (.panic c) (a.put oi.dst v) w→Q (.panic c) a w:=by exact fun _ _ _ _ h=>h):Ub (i::is) (iX P md ops Q (fuel+1) listed a w):=
 uD i hi hs hf hr hQ h
theorem nQ (h:∀K:Act→Prop,(∀a',Ub is (dS P md ops Q E fuel (listed.setIfInBounds i true) a' w)→K a')→if Region.wanted oi (yielded ops a.tmps) then∃v,(∀p:Regrown,Oper.quietUpon P (Ge (Gr w p)) (Gr w p) v ((execOp a.eval oi).run P (Gr w p)))∧K (a.put oi.dst v) else K (a.put oi.dst undef)) (hi:ops[i]?=some oi:=by rfl) (hs:Region.noSelect ops=true:=by kernel_rfl) (hf:Region.free md ops listed i=true:=by kernel_rfl) (hr:(Region.ready md ops listed).contains i=true:=by kernel_rfl) (hcl:nA md ops listed=true:=by kernel_rfl) (hE:(Ju md ops E 20).contains i=true:=by kernel_rfl) (hQ:∀v c a w,Q (.panic c) (a.put oi.dst v) w→Q (.panic c) a w:=by exact fun _ _ _ _ h=>h):Ub (i::is) (dS P md ops Q E (fuel+1) listed a w):=
 rz i 20 hi hs hf hr hcl hE hQ h
theorem tkF (h:∀K:Act→Prop,(∀a',Ub is (iK P md ops Q E fuel (listed.setIfInBounds i true) a' w)→K a')→if Region.wanted oi (yielded ops a.tmps) then∃v,(∀p:Regrown,Oper.quietUpon P (Ge (Gr w p)) (Gr w p) v ((execOp a.eval oi).run P (Gr w p)))∧K (a.put oi.dst v) else K (a.put oi.dst undef)) (hi:ops[i]?=some oi:=by rfl) (hs:Region.noSelect ops=true:=by kernel_rfl) (hf:Region.free md ops listed i=true:=by kernel_rfl) (hr:(Region.ready md ops listed).contains i=true:=by kernel_rfl) (hcl:nA md ops listed=true:=by kernel_rfl) (hE:(Ju md ops E 20).contains i=true:=by kernel_rfl) (hQ:∀v c a w,Q (.panic c) (a.put oi.dst v) w→Q (.panic c) a w:=by exact fun _ _ _ _ h=>h):Ub (i::is) (iK P md ops Q E (fuel+1) listed a w):=
 Jr i 20 hi hs hf hr hcl hE hQ h
theorem tkB (hb:b≤w.heap.size) (h:∀K:Act→Prop,(∀a',Ub is (iw P md ops Q E b fuel (listed.setIfInBounds i true) a' w)→K a')→if Region.wanted oi (yielded ops a.tmps) then∃v,(∀p:Und b w,Oper.quietUpon P (Ge p.x) p.x v ((execOp a.eval oi).run P p.x))∧K (a.put oi.dst v) else K (a.put oi.dst undef)) (hi:ops[i]?=some oi:=by rfl) (hs:Region.noSelect ops=true:=by kernel_rfl) (hf:Region.free md ops listed i=true:=by kernel_rfl) (hr:(Region.ready md ops listed).contains i=true:=by kernel_rfl) (hcl:nA md ops listed=true:=by kernel_rfl) (hE:(Ju md ops E 20).contains i=true:=by kernel_rfl) (hQ:∀v c a w,Q (.panic c) (a.put oi.dst v) w→Q (.panic c) a w:=by exact fun _ _ _ _ h=>h):Ub (i::is) (iw P md ops Q E b (fuel+1) listed a w):=
 Jq i 20 hb hi hs hf hr hcl hE hQ h
end
namespace GR
open Go.RowKit
section
variable {α:Type} (enc:α→List Value) (sz:Nat)
def flat (l:List α):List Value:=l.flatMap enc
theorem flat_nil:flat enc []=[]:=rfl
theorem flat_cons (x:α) (r:List α):flat enc (x::r)=enc x++flat enc r:=rfl
theorem flat_append (l r:List α):flat enc (l++r)=flat enc l++flat enc r:=by simp[flat]
theorem flat_one (x:α):flat enc [x]=enc x:=by simp[flat]
theorem flat_length (h:∀x,(enc x).length=sz) (l:List α):(flat enc l).length=l.length*sz:=by
 induction l with
 |nil=>simp[flat]
 |cons x r ih=>rw [flat_cons,List.length_append,ih,h,List.length_cons,Nat.add_mul,Nat.one_mul,Nat.add_comm]
theorem flat_at (h:∀x,(enc x).length=sz):∀(l:List α) (i:Nat) (hi:i < l.length) (j:Nat),j < sz→(flat enc l)[i*sz+j]?=(enc l[i])[j]?:=by
 intro l;induction l with
 |nil=>intro i hi;simp at hi
 |cons x r ih=>
  intro i hi j hj
  rw [flat_cons]
  cases i with
  |zero=>
   rw [Nat.zero_mul,Nat.zero_add,List.getElem?_append_left (by rw [h];exact hj)]
   rfl
  |succ i=>
   have e:(i+1)*sz+j=sz+(i*sz+j):=by rw [Nat.add_mul,Nat.one_mul];omega
   rw [List.getElem?_append_right (by rw [h];omega),h,e,Nat.add_sub_cancel_left,ih i (by simpa using hi) j hj]
   rfl
def setRun (xs:List Value) (o:Nat):List Value→List Value
 |[]=>xs
 |v::vs=>setRun (xs.set o v) (o+1) vs
theorem setRun_append_right (a:List Value):∀(vs:List Value) (o:Nat) (b:List Value),setRun (a++b) (a.length+o) vs=a++setRun b o vs:=by
 intro vs;induction vs with
 |nil=>intro o b;rfl
 |cons v vs ih=>
  intro o b
  show setRun ((a++b).set (a.length+o) v) (a.length+o+1) vs=a++setRun (b.set o v) (o+1) vs
  rw [List.set_append_right _ _ (by omega),Nat.add_sub_cancel_left,Nat.add_assoc,ih]
theorem setRun_head:∀(vs a b:List Value),vs.length=a.length→setRun (a++b) 0 vs=vs++b:=by
 intro vs;induction vs with
 |nil=>intro a b h;have:a=[]:=List.eq_nil_of_length_eq_zero (by simpa using h.symm);subst this;rfl
 |cons v vs ih=>
  intro a b h
  cases a with
  |nil=>simp at h
  |cons y a=>
   show setRun (((y::a)++b).set 0 v) (0+1) vs=v::vs++b
   have e:((y::a)++b).set 0 v=[v]++(a++b):=rfl
   rw [e,Nat.zero_add]
   have h2:=setRun_append_right [v] vs 0 (a++b)
   simp only[List.length_singleton,Nat.add_zero] at h2
   rw [h2,ih a b (by simpa using h)]
   rfl
theorem flat_set (h:∀x,(enc x).length=sz):∀(l:List α) (i:Nat) (x:α),i < l.length→setRun (flat enc l) (i*sz) (enc x)=flat enc (l.set i x):=by
 intro l;induction l with
 |nil=>intro i x hi;simp at hi
 |cons y r ih=>
  intro i x hi
  cases i with
  |zero=>
   rw [Nat.zero_mul,flat_cons,setRun_head _ _ _ (by rw [h,h])]
   rfl
  |succ i=>
   have e:(i+1)*sz=(enc y).length+i*sz:=by rw [h,Nat.add_mul,Nat.one_mul,Nat.add_comm]
   rw [flat_cons,e,setRun_append_right _,ih i x (by simpa using hi)]
   rfl
def At (w:World) (a:Option Addr) (l:List α):Prop:=∀i (hi:i < l.length),∃g off,a=some ⟨g,off,none⟩∧g < w.heap.size∧∀j,j < sz→w.cell? ⟨g,off+(i*sz+j),none⟩=(enc l[i])[j]?
theorem At.below {enc:α→List Value} {sz:Nat} {w w':World} {a:Option Addr} {l:List α} (h:At enc sz w a l) (hb:Below w.heap.size w w'):At enc sz w' a l:=fun i hi=>by
 obtain⟨g,off,e,hg,hc⟩:=h i hi;exact⟨g,off,e,Nat.lt_of_lt_of_le hg hb.size,fun j hj=>(hb.cell (p:=⟨g,off+(i*sz+j),none⟩) hg).trans (hc j hj)⟩
theorem at_nil {w:World} {a:Option Addr}:At enc sz w a []:=fun i hi=>by simp at hi
def Blk (t:TypeId) (w:World) (g:Nat) (l:List α):Prop:=w.heap[g]?=some (.cells (flat enc l).toArray t (0,0))
theorem Blk.cell {enc:α→List Value} {sz:Nat} {t:TypeId} {w:World} {g:Nat} {l:List α} (h:Blk enc t w g l) (hs:∀x,(enc x).length=sz) (i:Nat) (hi:i < l.length) (j:Nat) (hj:j < sz):w.cell? ⟨g,i*sz+j,none⟩=(enc l[i])[j]?:=by
 rw [cell_of_row w g _ _ t (0,0) h];simpa using flat_at enc sz hs l i hi j hj
theorem Blk.free {enc:α→List Value} {t:TypeId} {w:World} {g:Nat} {l:List α} (h:Blk enc t w g l) (i:Nat):w.frozen? ⟨g,i,none⟩=false:=by
 unfold World.frozen?;rw [h];simp
theorem Blk.lt {enc:α→List Value} {t:TypeId} {w:World} {g:Nat} {l:List α} (h:Blk enc t w g l):g < w.heap.size:=by
 rcases Nat.lt_or_ge g w.heap.size with h'|h'
 ·exact h'
 ·rw [Blk,Array.getElem?_eq_none h'] at h;cases h
theorem Blk.at {enc:α→List Value} {sz:Nat} {t:TypeId} {w:World} {g:Nat} {l:List α} (h:Blk enc t w g l) (hs:∀x,(enc x).length=sz):At enc sz w (some ⟨g,0,none⟩) l:=fun i hi=>
 ⟨g,0,rfl,h.lt,fun j hj=>by rw [Nat.zero_add];exact h.cell hs i hi j hj⟩
def setW (w:World) (g o:Nat):List Value→World
 |[]=>w
 |v::vs=>setW (w.setCell ⟨g,o,none⟩ v) g (o+1) vs
theorem setW_blk:∀(vs:List Value) {w:World} {g o:Nat} {xs:List Value} {t:TypeId},w.heap[g]?=some (.cells xs.toArray t (0,0))→(setW w g o vs).heap[g]?=some (.cells (setRun xs o vs).toArray t (0,0)):=by
 intro vs;induction vs with
 |nil=>intro w g o xs t h;exact h
 |cons v vs ih=>
  intro w g o xs t h
  refine ih (xs:=xs.set o v) ?_
  unfold World.setCell
  simp only[Array.getElem?_modify]
  rw [if_pos trivial,h]
  simp
theorem Blk.set {enc:α→List Value} {sz:Nat} {t:TypeId} {w:World} {g:Nat} {l:List α} (h:Blk enc t w g l) (hs:∀x,(enc x).length=sz) (i:Nat) (hi:i < l.length) (x:α):Blk enc t (setW w g (i*sz) (enc x)) g (l.set i x):=by
 have h2:=setW_blk (enc x) (o:=i*sz) h;rw [flat_set enc sz hs l i x hi] at h2;exact h2
theorem setW_below {B:Nat} {a:World} {g:Nat} (hg:B≤g):∀(vs:List Value) {w:World} {o:Nat},Below B a w→Below B a (setW w g o vs):=by
 intro vs;induction vs with
 |nil=>intro w o h;exact h
 |cons v vs ih=>intro w o h;exact ih (h.setCell (p:=⟨g,o,none⟩) hg v)
theorem setW_other {g g':Nat} (hne:g'≠g):∀(vs:List Value) {w:World} {o:Nat},(setW w g o vs).heap[g']?=w.heap[g']?:=by
 intro vs;induction vs with
 |nil=>intro w o;rfl
 |cons v vs ih=>intro w o;exact(ih (w:=w.setCell ⟨g,o,none⟩ v)).trans (Below.heap_setCell _ _ _ _ hne)
theorem made_flat (h:∀x,(enc x).length=sz) (hz:0 < sz) (x:α) (z:Array Value) (he:z.toList=enc x) (n:Nat):madeCells z (n*sz)=(flat enc (List.replicate n x)).toArray:=by
 have hzs:z.size=sz:=by rw [←Array.length_toList,he,h]
 apply Array.ext_getElem?
 intro k;by_cases hk:k < n*sz
 ·have hq:k / sz < n:=Nat.div_lt_of_lt_mul (by rw [Nat.mul_comm];exact hk);have hr:k % sz < sz:=Nat.mod_lt _ hz;have hf:=flat_at enc sz h (List.replicate n x) (k / sz) (by simpa using hq) (k % sz) hr;have ek:k / sz*sz+k % sz=k:=Nat.div_add_mod' k sz;rw [ek] at hf;have h1:(madeCells z (n*sz))[k]?=some (z[k % z.size]!):=by simp[madeCells,hk]
  rw [h1,hzs]
  have h2:(flat enc (List.replicate n x)).toArray[k]?=(enc x)[k % sz]?:=by
   rw [List.getElem?_toArray,hf];simp
  rw [h2,←he];have h3:k % sz < z.size:=by omega
  rw [getElem!_pos z (k % sz) h3,Array.getElem?_toList,Array.getElem?_eq_getElem h3]
 ·have h1:(madeCells z (n*sz)).size≤k:=by simp[madeCells];omega
  have h2:(flat enc (List.replicate n x)).toArray.size≤k:=by
   rw [List.size_toArray,flat_length enc sz h];simp;omega
  rw [Array.getElem?_eq_none h1,Array.getElem?_eq_none h2]
theorem own_at {enc:α→List Value} {sz:Nat} {w:World} {base:Nat} {e:TypeId} {v:Value} {l:List α} (hs:∀x,(enc x).length=sz) (h:w.ownsRow base e sz v l.length (flat enc l)):∃a cap,v= .slice a l.length cap∧At enc sz w a l:=by
 rcases h.2 with⟨rfl,hn⟩|⟨g,cap,cur,rfl,hg,hblk,_⟩
 ·exact⟨none,0,by rw [hn],fun i hi=>by omega⟩
 ·refine⟨_,cap,rfl,fun i hi=>⟨g,0,rfl,?_,fun j hj=>?_⟩⟩
  ·rcases Nat.lt_or_ge g w.heap.size with h'|h'
   ·exact h'
   ·rw [Array.getElem?_eq_none h'] at hblk;cases hblk
  ·have hf:=flat_at enc sz hs l i hi j hj;have hj':j < (enc l[i]).length:=by rw [hs];exact hj
   rw [List.getElem?_eq_getElem hj'] at hf ⊢;have:=h.cells rfl (i*sz+j) _ hf;have ea:(⟨g,0,none⟩:Addr).add (i*sz+j)=⟨g,0+(i*sz+j),none⟩:=by unfold Addr.add;split<;>simp_all
   rw [ea] at this;exact this
end
end GR
namespace Mth
structure Pu where
 k:ByteArray
 m:Int
 f:Int
 s:Int
instance:Inhabited Pu:=⟨⟨ByteArray.empty,0,0,0⟩⟩
abbrev eG (p:Pu):List Value:=[.string p.k,.int .i64 p.m,.int .i64 p.f,.int .i64 p.s]
abbrev wI (p:Pu):Value:= .agg #[.string p.k,.int .i64 p.m,.int .i64 p.f,.int .i64 p.s]
theorem aZ (p:Pu):(eG p).length=4:=rfl
def sle (a b:ByteArray):Bool:=Op.bytesLess a.toList b.toList||a.toList == b.toList
def mW (n:Int):Bool:=decide (0≤n∧n≤1000000000)
def fH (p:Pu):Bool:=keyOk p.k.data.toList&&mW p.m&&mW p.f&&mW p.s&&mW (p.f+p.s)
def jc (l:List Pu) (i:Nat):Bool:=fH (l.getD i default)&&(i == 0|| !sle (l.getD i default).k (l.getD (i - 1) default).k)
def ig (l:List Pu):Bool:=(List.range l.length).all (jc l)&&decide (l.length≤20)
theorem jM (f:Nat→Bool) (k:Nat):(List.range (k+1)).all f=((List.range k).all f&&f k):=by
 rw [List.range_succ,List.all_append];simp
theorem gK {l:List Pu} {i:Nat} (hi:i < l.length) (h:jc l i=false):ig l=false:=by
 unfold ig
 have:(List.range l.length).all (jc l)=false:=by
  rw [List.all_eq_false];exact⟨i,List.mem_range.2 hi,by rw [h];simp⟩
 rw [this];rfl
theorem Ow {l:List Pu} (h:(List.range l.length).all (jc l)=true):ig l=decide (l.length≤20):=by unfold ig;rw [h];rfl
def aF (l:List Pu) (k:ByteArray):Pu:=(l.find? fun p=>p.k.toList == k.toList).getD ⟨k,0,0,0⟩
theorem CY (f:Pu→Bool) (l:List Pu) (i:Nat) (hi:i < l.length) (h:(l.take i).find? f=none):(f l[i]=true→l.find? f=some l[i])∧(f l[i]=false→(l.take (i+1)).find? f=none):=by
 exact amY
theorem getD_at (l:List Pu) (i:Nat) (hi:i < l.length):l.getD i default=l[i]:=by rw [List.getD_eq_getElem?_getD,List.getElem?_eq_getElem hi];rfl
end Mth
theorem nW (x a b:Int) (w:World) (h1:a≤x) (h2:x≤b):Calls Tryz.prog 63 #[.int .i64 x,.int .i64 a,.int .i64 b] w fun e w'=>e= .returned (.bool true)∧w=w':=by
 exact QO
theorem Oi (x a b:Int) (w:World) (h1:x < a):Calls Tryz.prog 63 #[.int .i64 x,.int .i64 a,.int .i64 b] w fun e w'=>e= .returned (.bool false)∧w=w':=by
 have h2:¬a≤x:=by omega
 exact QO
theorem Kq (x a b:Int) (w:World) (h1:a≤x) (h3:b < x):Calls Tryz.prog 63 #[.int .i64 x,.int .i64 a,.int .i64 b] w fun e w'=>e= .returned (.bool false)∧w=w':=by
 have h2:¬x≤b:=by omega
 exact QO
theorem qO (x a b:Int) (w:World) (h:x < a∨b < x):Calls Tryz.prog 63 #[.int .i64 x,.int .i64 a,.int .i64 b] w fun e w'=>e= .returned (.bool false)∧w=w':=by
 by_cases h1:x < a
 ·exact Oi x a b w h1
 ·exact Kq x a b w (by omega) (by omega)
set_option maxHeartbeats 1000000
set_option maxRecDepth 100000
theorem Dr (s:ByteArray) (w:World) (hs:s.size≤maxLen):
 Calls Tryz.prog 64 #[.string s] w fun e w'=>e= .returned (.bool (Mth.keyOk s.data.toList))∧w=w':=by
 unfold maxLen at hs;go_enter Tryz.func64,Tryz.ntmps64
 go_wp2
 go_loop [3] (fun i=>∃k:Nat,k≤s.size∧i= .int .i64 k∧(s.data.toList.take k).all Mth.keyByte=true) (fun i=>s.size - (intOf i).toNat)
 case atStart=>exact⟨0,Nat.zero_le _,rfl,rfl⟩
 case round=>
  obtain⟨k,hk,rfl,hall⟩:=hrel;have HA:=hide hall;clear hall;by_cases hlt:k < s.size
  ·open aiZ in exact XJ
  ·open ak8 in exact YF
theorem Dq (n:Int) (w:World) (h1:97≤n) (h2:n≤122):Calls Tryz.prog 176 #[.int .u8 n] w fun e w'=>e= .returned (.bool true)∧w=w':=by
 exact QK
theorem IG (n:Int) (w:World) (h:n < 97∨122 < n):Calls Tryz.prog 176 #[.int .u8 n] w fun e w'=>e= .returned (.bool false)∧w=w':=by
 by_cases h1:97≤n
 ·have h2:¬n≤122:=by omega
  clear h;exact QK
 ·clear h;exact QK
theorem CW (n:Int) (w:World) (h1:48≤n) (h2:n≤57):Calls Tryz.prog 177 #[.int .u8 n] w fun e w'=>e= .returned (.bool true)∧w=w':=by
 exact QL
theorem GD (n:Int) (w:World) (h:n < 48∨57 < n):Calls Tryz.prog 177 #[.int .u8 n] w fun e w'=>e= .returned (.bool false)∧w=w':=by
 by_cases h1:48≤n
 ·have h2:¬n≤57:=by omega
  clear h;exact QL
 ·clear h;exact QL
set_option maxHeartbeats 1000000
theorem Db (s:ByteArray) (w:World):
 Calls Tryz.prog 131 #[.string s] w fun e w'=>e= .returned (.bool (Mth.keyOk s.data.toList))∧w=w':=by
 by_cases hlen:(1:Int)≤(s.size:Int)∧(s.size:Int)≤10
 ·obtain⟨hs1,hs2⟩:=hlen;have hne:s.toList.isEmpty=false:=xC s (by omega);have h10:decide (10 < (s.size:Int))=false:=by simp;omega
  go_enter Tryz.func131,Tryz.ntmps131
  go_wp2
  go_loop [13] (fun i=>∃k:Nat,k≤s.size∧i= .int .i64 k∧(s.data.toList.take k).all Mth.keyByte=true) (fun i=>s.size - (intOf i).toNat)
  case atStart=>exact⟨0,Nat.zero_le _,rfl,rfl⟩
  case round=>
   obtain⟨k,hk,rfl,hall⟩:=hrel;have HA:=hide hall;clear hall;by_cases hlt:k < s.size
   ·open ai0 in exact XJ
   ·open ak9 in exact YF
 ·have HF:Hid (Mth.keyOk s.data.toList=false):=Mth.keyOk_len _ (by rw [gU];omega);by_cases h0:s.size=0
  ·have he:s=ByteArray.empty:=eq_empty s h0;subst he;exact Zu
  ·have hne:s.toList.isEmpty=false:=xC s (by omega);have h10:10 < (s.size:Int):=by omega
   exact Zu
namespace Mth
structure Mg where
 K:Int
 F:Int
 T:Int
 I:Int
 L:Int
 k:ByteArray
 N:Int
abbrev nX (m:Mg):Value:= .agg #[.int .i64 m.K,.int .i64 m.F,.int .i64 m.T,.int .i64 m.I,.int .i64 m.L,.string m.k,.int .i64 m.N]
def nY (n:Int):Bool:=decide (0≤n∧n≤29)
def eD (n:Int):Bool:=decide (1≤n∧n≤1000000000)
def jZ (f t:Int):Bool:=nY f&&nY t&&decide (f≠t)
def bJ (m:Mg):Bool:=
 jZ m.F m.T&&
  (if m.K=0 then keyOk m.k.data.toList&&eD m.N&&decide (m.I=0)&&decide (m.L=0)
   else if m.K=1 then keyOk m.k.data.toList&&eD m.N&&eD m.I&&decide (1≤m.L∧m.L≤m.I)
   else if m.K=2 then eD m.I&&decide (m.k.size=0)&&decide (m.N=0)&&decide (m.L=0)
   else false)
end Mth
open Mth
theorem wp_at {P:Program} {Q:Exit→Act→World→Prop} {c:Code} {a:Act} {W:World} (h:∀W',W'=W→Code.wp P c Q a W'):Code.wp P c Q a W:=h W rfl
theorem au (w:World) (o:Obj):Below w.heap.size w (w.alloc o):=(Below.refl _ _).alloc (Nat.le_refl _) _
theorem Dn {p:Prop} [Decidable p] (h:¬p):Ending.returned (.bool false)= .returned (.bool (decide p)):=by rw [decide_eq_false h]
theorem Mt {p q:Prop} [Decidable p] [Decidable q] (h:p↔q):Ending.returned (.bool (decide p))= .returned (.bool (decide q)):=by rw [decide_eq_decide.2 h]
theorem pz (x a b:Int) (r:Bool) (w:World) (h:decide (a≤x∧x≤b)=r):Calls Tryz.prog 63 #[.int .i64 x,.int .i64 a,.int .i64 b] w fun e w'=>e= .returned (.bool r)∧w=w':=by
 subst h;by_cases h:a≤x∧x≤b
 ·rw [decide_eq_true h];exact nW x a b w h.1 h.2
 ·rw [decide_eq_false h];exact qO x a b w (by omega)
theorem jv (n:Int) (r:Bool) (w:World) (h:nY n=r):Calls Tryz.prog 134 #[.int .i64 n] w fun e w'=>e= .returned (.bool r)∧w=w':=by
 go_enter Tryz.func134,Tryz.ntmps134
 exact Zi
theorem dM (n:Int) (r:Bool) (w:World) (h:eD n=r):Calls Tryz.prog 61 #[.int .i64 n] w fun e w'=>e= .returned (.bool r)∧w=w':=by
 go_enter Tryz.func61,Tryz.ntmps61
 exact Zi
theorem isNode (n:Int) (r:Bool) (w:World) (h:nY n=r):Calls Tryz.prog 128 #[.int .i64 n] w fun e w'=>e= .returned (.bool r)∧w=w':=by
 subst h;by_cases h0:0≤n
 ·go_enter Tryz.func128,Tryz.ntmps128
  go_wp2
  go_ret;exact⟨Mt (by omega),rfl⟩
 ·go_enter Tryz.func128,Tryz.ntmps128
  go_wp2
  go_ret;exact⟨Dn (by omega),rfl⟩
theorem aP (n:Int) (r:Bool) (w:World) (h:eD n=r):Calls Tryz.prog 54 #[.int .i64 n] w fun e w'=>e= .returned (.bool r)∧w=w':=by
 subst h;by_cases h0:1≤n
 ·go_enter Tryz.func54,Tryz.ntmps54
  go_wp2
  go_ret;exact⟨Mt (by omega),rfl⟩
 ·go_enter Tryz.func54,Tryz.ntmps54
  go_wp2
  go_ret;exact⟨Dn (by omega),rfl⟩
theorem gB (s:ByteArray) (b:Bool) (w:World) (h:keyOk s.data.toList=b):Calls Tryz.prog 131 #[.string s] w fun e w'=>e= .returned (.bool b)∧w=w':=by
 rw [←h];exact Db s w
theorem jS (s:ByteArray) (b:Bool) (w:World) (hs:s.size≤maxLen) (h:keyOk s.data.toList=b):Calls Tryz.prog 64 #[.string s] w fun e w'=>e= .returned (.bool b)∧w=w':=by
 rw [←h];exact Dr s w hs
namespace Mth
structure jm where
 i:Int
 t:Int
 k:ByteArray
 n:Int
structure Sn where
 f:Int
 l:Int
 ids:List Int
structure Rq where
 no:Int
 k:ByteArray
 n:Int
 s:Int
structure Nd where
 id:Int
 par:Int
 kids:List Int
 next:Int
 pu:List Pu
 out:List jm
 seen:List Sn
 old:Int
 reqs:List Rq
instance:Inhabited jm:=⟨⟨0,0,ByteArray.empty,0⟩⟩
instance:Inhabited Sn:=⟨⟨0,0,[]⟩⟩
instance:Inhabited Rq:=⟨⟨0,ByteArray.empty,0,0⟩⟩
abbrev aR (x:Int):List Value:=[.int .i64 x]
abbrev aS (s:jm):List Value:=[.int .i64 s.i,.int .i64 s.t,.string s.k,.int .i64 s.n]
abbrev aK (r:Rq):List Value:=[.int .i64 r.no,.string r.k,.int .i64 r.n,.int .i64 r.s]
theorem aN (x:Int):(aR x).length=1:=rfl
theorem bH (x:jm):(aS x).length=4:=rfl
theorem aY (x:Rq):(aK x).length=4:=rfl
def fT {α:Type} (p:α→Bool) (r:α→α→Bool):List α→Bool
 |[]=>true
 |[x]=>p x
 |x::y::l=>p x&&r x y&&fT p r (y::l)
section
variable {α:Type} (p:α→Bool) (r:α→α→Bool)
theorem kX (x:α) (l:List α):fT p r (x::l)=(p x&&(match l.head? with|none=>true|some y=>r x y)&&fT p r l):=by
 cases l with
 |nil=>simp[fT]
 |cons y l=>simp[fT]
theorem Gw (l:List α) (x:α):fT p r (l++[x])=(fT p r l&&(p x&&(match l.getLast? with|none=>true|some y=>r y x))):=by
 induction l with
 |nil=>simp[fT]
 |cons y l ih=>
  rw [List.cons_append,kX,ih,kX]
  cases l with
  |nil=>simp[fT,Bool.and_comm,Bool.and_left_comm]
  |cons z l=>simp[Bool.and_assoc]
theorem JU (l m:List α):fT p r (l++m)=true→fT p r l=true:=by
 induction l with
 |nil=>simp[fT]
 |cons y l ih=>
  intro h
  rw [List.cons_append,kX] at h
  rw [kX]
  simp only[Bool.and_eq_true] at h ⊢
  refine⟨⟨h.1.1,?_⟩,ih h.2⟩
  cases l with
  |nil=>simp
  |cons z l=>simpa using h.1.2
theorem nS (l:List α) (h:0 < l.length):fT p r (l.take 1)=p l[0]:=by
 match l,h with
 |x::l,_=>simp[fT]
theorem qE (l:List α) (k:Nat) (h:k+1 < l.length):fT p r (l.take (k+2))=(fT p r (l.take (k+1))&&(p l[k+1]&&r l[k] l[k+1])):=by
 rw [List.take_succ_eq_append_getElem h,Gw]
 have e:(l.take (k+1)).getLast?=some l[k]:=by
  rw [List.take_succ_eq_append_getElem (by omega),List.getLast?_append];simp
 rw [e]
theorem lQ (l:List α) (k:Nat) (h:fT p r (l.take k)=false):fT p r l=false:=by
 cases hc:fT p r l with
 |false=>rfl
 |true=>
  rw [←List.take_append_drop k l] at hc
  rw [JU p r _ _ hc] at h
  cases h
end
def iE (id par x:Int):Bool:=nY x&&decide (x≠id)&&decide (x≠par)
def gJ (x y:Int):Bool:=decide (x < y)
def bQ (n:Nd):Bool:=nY n.id&&decide (-1≤n.par∧n.par≤29)&&decide (n.par≠n.id)&&decide (n.kids.length≤30)&&fT (iE n.id n.par) gJ n.kids
def hasB (l:List Int) (x:Int):Bool:=l.any fun y=>decide (y=x)
def dB (n:Nd) (x:Int):Bool:=(decide (0≤x)&&decide (x=n.par))||hasB n.kids x
def wH (low x:Int):Bool:=decide (low≤x∧x≤1000000000)
def qz (s:Sn):Bool:=eD s.l&&decide (s.ids.length≤40)&&fT (wH s.l) gJ s.ids
def lC (n:Nd):Bool:=decide ((n.seen.length:Int)=n.kids.length+(if 0≤n.par then 1 else 0))&&fT (fun s=>dB n s.f&&qz s) (fun s t=>gJ s.f t.f) n.seen
def qy (n:Nd) (o:jm):Bool:=decide (1≤o.i∧o.i≤n.next - 1)&&dB n o.t&&keyOk o.k.data.toList&&eD o.n
def oo (n:Nd) (q:Rq):Bool:=decide (n.old+1≤q.no∧q.no≤1000000000)&&keyOk q.k.data.toList&&eD q.n&&decide (0≤q.s∧q.s≤2)
def nZ (n:Nd):Bool:=decide (n.out.length≤40)&&fT (qy n) (fun s t=>gJ s.i t.i) n.out
def fQ (n:Nd):Bool:=mW n.old&&decide (n.reqs.length≤30)&&fT (oo n) (fun s t=>gJ s.no t.no) n.reqs
def dG (n:Nd):Bool:=bQ n&&ig n.pu&&lC n&&eD n.next&&nZ n&&fQ n
end Mth
def sG (x a b:Int):Prop:=a≤x∧x≤b
instance (x a b:Int):Decidable (sG x a b):=by unfold sG;infer_instance
theorem Kn (x a b:Int) (w:World):Calls Tryz.prog 63 #[.int .i64 x,.int .i64 a,.int .i64 b] w fun e w'=>e= .returned (.bool (decide (sG x a b)))∧w=w':=by
 by_cases h:sG x a b
 ·rw [decide_eq_true h];exact nW x a b w h.1 h.2
 ·rw [decide_eq_false h];exact qO x a b w (by unfold sG at h;omega)
theorem rJ (n:Int) (w:World):Calls Tryz.prog 62 #[.int .i64 n] w fun e w'=>e= .returned (.bool (decide (sG n 0 1000000000)))∧w=w':=by
 go_enter Tryz.func62,Tryz.ntmps62
 go_wp2_with (go_at_call 63;refine(Kn _ _ _ _).mono ?_;rintro e w1 ⟨rfl,rfl⟩)
 go_ret;exact⟨rfl,rfl⟩
set_option maxHeartbeats 4000000
abbrev aH (w:World) (a:Option Addr) (l:List Pu):Prop:=GR.At eG 4 w a l
theorem aH.four {w:World} {a:Option Addr} {l:List Pu} (h:aH w a l) (i:Nat) (hi:i < l.length):∃g off,a=some ⟨g,off,none⟩∧g < w.heap.size∧w.cell? ⟨g,off+i*4,none⟩=some (.string l[i].k)∧w.cell? ⟨g,off+i*4+1,none⟩=some (.int .i64 l[i].m)∧w.cell? ⟨g,off+i*4+2,none⟩=some (.int .i64 l[i].f)∧w.cell? ⟨g,off+i*4+3,none⟩=some (.int .i64 l[i].s):=by
 exact aaZ
theorem lU (s:ByteArray) (b:Bool) (hs:s.size≤maxLen) (hb:keyOk s.data.toList=b) (W:World) (n:Nat):Calls Tryz.prog 64 #[.string s] (W.drewN n) fun e w''=>e= .returned (.bool b)∧∃m,w''=W.drewN m:=by
 rw [←hb];exact(Dr s _ hs).mono fun e w' ⟨he,hw⟩=>⟨he,n,hw.symm⟩
theorem fC (x:Int) (b:Bool) (hb:decide (sG x 0 1000000000)=b) (W:World) (n:Nat):Calls Tryz.prog 62 #[.int .i64 x] (W.drewN n) fun e w''=>e= .returned (.bool b)∧∃m,w''=W.drewN m:=by
 rw [←hb];exact(rJ x _).mono fun e w' ⟨he,hw⟩=>⟨he,n,hw.symm⟩
theorem lW (a:Option Addr) (cap:Nat) (l:List Pu) (w:World) (hl:l.length≤1048600) (hk:∀p∈l,p.k.size≤maxLen) (ha:aH w a l):
 Calls Tryz.prog 59 #[.slice a l.length cap] w fun e w'=>e= .returned (.bool (ig l))∧Below w.heap.size w w':=by
 have HA:=hide ha;have HK:=hide hk;clear ha hk;go_enter Tryz.func59,Tryz.ntmps59
 go_wp2_with fail;go_loopw [3] (fun i wr=>∃k:Nat,k≤l.length∧i= .int .i64 k∧(List.range k).all (jc l)=true∧Below w.heap.size w wr) (fun i _=>l.length - (intOf i).toNat)
 case atStart=>exact QX
 case round=>
  obtain⟨k,hk,rfl,hall,hbel⟩:=hrel;have fD:=hide hbel;have kV:=hide hall;clear hall hbel;by_cases hlt:k < l.length
  ·have hks:=ah HK l[k] (List.getElem_mem hlt);open aff in exact ama
  ·exact am2
set_option maxHeartbeats 2000000
theorem qX (a:Option Addr) (cap:Nat) (l:List Pu) (key:ByteArray) (w:World) (hl:l.length≤1048600) (ha:aH w a l):
 Calls Tryz.prog 120 #[.slice a l.length cap,.string key] w fun e w'=>e= .returned (wI (aF l key))∧Below w.heap.size w w':=by
 have HA:=hide ha;clear ha;go_enter Tryz.func120,Tryz.ntmps120
 go_wp2_with fail;go_loopw [5] (fun i wr=>∃k:Nat,k≤l.length∧i= .int .i64 k∧(l.take k).find? (fun p=>p.k.toList == key.toList)=none∧wr=w.alloc (.cells #[.string ⟨#[]⟩,.int .i64 0,.int .i64 0,.int .i64 0] 143)) (fun i _=>l.length - (intOf i).toNat)
 case atStart=>exact⟨0,Nat.zero_le _,rfl,rfl,rfl⟩
 case round=>
  obtain⟨k,hk,rfl,hnone,rfl⟩:=hrel;have HN:=hide hnone;clear hnone;by_cases hlt:k < l.length
  ·obtain⟨g,off,rfl,hgw,c0,c1,c2,c3⟩:=aH.four HA k hlt;have hfs:=CY (fun p=>p.k.toList == key.toList) l k hlt HN;cases hf:l[k].k.toList == key.toList
   ·have HX:=hide (hfs.2 hf);clear hfs HN;open alh in exact QD
   ·have HX:=hide (show aF l key=l[k] by unfold aF;rw [hfs.1 hf];rfl);clear hfs HN;open alg in exact QD
  ·open afS in exact DZ
theorem eX {w:World} {g:Nat} {a0 a1 a2 a3:Value} {t:TypeId} (h:w.heap[g]?=some (.cells #[a0,a1,a2,a3] t (0,0))):
 (w.cell? ⟨g,0,none⟩=some a0∧w.cell? ⟨g,1,none⟩=some a1∧w.cell? ⟨g,2,none⟩=some a2∧w.cell? ⟨g,3,none⟩=some a3)∧(w.frozen? ⟨g,0,none⟩=false∧w.frozen? ⟨g,1,none⟩=false∧w.frozen? ⟨g,2,none⟩=false∧w.frozen? ⟨g,3,none⟩=false):=by
 have hc:∀i,w.cell? ⟨g,i,none⟩=#[a0,a1,a2,a3][i]?:=fun i=>cell_of_row w g i _ t (0,0) h
 have hf:∀i,w.frozen? ⟨g,i,none⟩=false:=fun i=>by unfold World.frozen?;rw [h];simp
 exact⟨⟨hc 0,hc 1,hc 2,hc 3⟩,hf 0,hf 1,hf 2,hf 3⟩
theorem bZ (w:World) (o:Obj):Below w.heap.size w (w.alloc o):=(Below.refl _ _).alloc (Nat.le_refl _) _
theorem zL:(Tryz.prog.info? 143).map (fun i=>(i.zero,i.size,i.bytes))=some (some (.agg #[.string ByteArray.empty,.int .i64 0,.int .i64 0,.int .i64 0]),4,40):=by kernel_rfl
theorem aH.news {w:World} {x:Addr} {l:List Pu} (h:aH w (some x) l):∀j u,(GR.flat eG l)[j]?=some u→w.cell? (x.add j)=some u:=by
 intro j u hu
 have hj:j < l.length*4:=by
  have:=(List.getElem?_eq_some_iff.1 hu).1;rwa [GR.flat_length eG 4 aZ] at this
 obtain⟨g,off,e,hg,hc⟩:=h (j / 4) (by omega);have hf:=GR.flat_at eG 4 aZ l (j / 4) (by omega) (j % 4) (by omega);have ej:j / 4*4+j % 4=j:=by omega
 rw [ej] at hf;have h2:=hc (j % 4) (by omega);exact anr
theorem uV (l:List Pu):∀u∈GR.flat eG l,u.oneCell'=true:=by
 intro u hu;unfold GR.flat at hu;rw [List.mem_flatMap] at hu;obtain⟨p,_,hp⟩:=hu;simp only[eG,List.mem_cons,List.not_mem_nil,or_false] at hp;rcases hp with rfl|rfl|rfl|rfl<;>rfl
abbrev qU (w:World) (g:Nat) (l:List Pu):Prop:=GR.Blk eG 143 w g l
theorem qU.four {w:World} {g:Nat} {l:List Pu} (h:qU w g l) (i:Nat) (hi:i < l.length):w.cell? ⟨g,i*4,none⟩=some (.string l[i].k)∧w.cell? ⟨g,i*4+1,none⟩=some (.int .i64 l[i].m)∧w.cell? ⟨g,i*4+2,none⟩=some (.int .i64 l[i].f)∧w.cell? ⟨g,i*4+3,none⟩=some (.int .i64 l[i].s):=
 ⟨by simpa using GR.Blk.cell h aZ i hi 0 (by omega),by simpa using GR.Blk.cell h aZ i hi 1 (by omega),by simpa using GR.Blk.cell h aZ i hi 2 (by omega),by simpa using GR.Blk.cell h aZ i hi 3 (by omega)⟩
theorem Ma {w w':World} {g:Nat} {l:List Pu} (h:qU w g l) (hb:Below w.heap.size w w'):qU w' g l:=by
 have hl:=GR.Blk.lt h;unfold qU GR.Blk at *;rw [hb.block g hl];exact h
theorem Ik (n:Nat) (hn:n≤2000000):∀W:World,(Instr.makeSlice 25 (.int .i64 (n:Int)) (.int .i64 (n:Int))).run Tryz.prog W= .ok (.slice (some ⟨W.heap.size,0,none⟩) n n) (W.alloc (.cells (GR.flat eG (List.replicate n ⟨ByteArray.empty,0,0,0⟩)).toArray 143)):=by
 obtain⟨i0,hi,hz0,hz1,hz2⟩:=info_parts zL;intro W;have h:=run_make (P:=Tryz.prog) W 25 143 i0 (.agg #[.string ByteArray.empty,.int .i64 0,.int .i64 0,.int .i64 0]) Tryz.underlying25 hi hz0 .i64 .i64 (n:Int) (n:Int) (by omega) (by omega) (by rw [hz2];omega) (by omega);rw [hz1] at h;have e:=GR.made_flat eG 4 aZ (by omega) ⟨ByteArray.empty,0,0,0⟩ (Value.agg #[.string ByteArray.empty,.int .i64 0,.int .i64 0,.int .i64 0]).cells rfl n;simp only[Int.toNat_natCast] at h;rw [e] at h;exact h
theorem Jg (l:List Pu) (z:Pu) (k:Nat) (hk:k < l.length):(l.take k++List.replicate (l.length - k) z).set k l[k]=l.take (k+1)++List.replicate (l.length - (k+1)) z:=by
 have hlen:(l.take k).length=k:=by simp;omega
 rw [List.set_append_right _ _ (by omega),hlen,Nat.sub_self];have e:l.length - k=(l.length - (k+1))+1:=by omega
 rw [e,List.replicate_succ,List.take_succ_eq_append_getElem hk,List.append_assoc];rfl
abbrev dK (w:World) (a:Option Addr) (l:List Int):Prop:=GR.At aR 1 w a l
theorem dK.one {w:World} {a:Option Addr} {l:List Int} (h:dK w a l) (i:Nat) (hi:i < l.length):∃g off,a=some ⟨g,off,none⟩∧g < w.heap.size∧w.cell? ⟨g,off+i,none⟩=some (.int .i64 l[i]):=by
 obtain⟨g,off,e,hg,hc⟩:=h i hi;refine⟨g,off,e,hg,?_⟩;simpa using hc 0 (by omega)
abbrev tN (w:World) (g:Nat) (l:List Int):Prop:=GR.Blk aR 3 w g l
theorem tN.one {w:World} {g:Nat} {l:List Int} (h:tN w g l) (i:Nat) (hi:i < l.length):w.cell? ⟨g,i,none⟩=some (.int .i64 l[i]):=by
 simpa using GR.Blk.cell h aN i hi 0 (by omega)
theorem tN.step {w w':World} {g:Nat} {l:List Int} (h:tN w g l) (hb:Below w.heap.size w w'):tN w' g l:=by
 have hl:=GR.Blk.lt h;unfold tN GR.Blk at *;rw [hb.block g hl];exact h
theorem vD:(Tryz.prog.info? 3).map (fun i=>(i.zero,i.size,i.bytes))=some (some (.int .i64 0),1,8):=by kernel_rfl
abbrev SentAt (w:World) (a:Option Addr) (l:List jm):Prop:=GR.At aS 4 w a l
abbrev Xe (p:jm):Value:= .agg #[.int .i64 p.i,.int .i64 p.t,.string p.k,.int .i64 p.n]
theorem SentAt.four {w:World} {a:Option Addr} {l:List jm} (h:SentAt w a l) (i:Nat) (hi:i < l.length):∃g off,a=some ⟨g,off,none⟩∧g < w.heap.size∧w.cell? ⟨g,off+i*4,none⟩=some (.int .i64 l[i].i)∧w.cell? ⟨g,off+i*4+1,none⟩=some (.int .i64 l[i].t)∧w.cell? ⟨g,off+i*4+2,none⟩=some (.string l[i].k)∧w.cell? ⟨g,off+i*4+3,none⟩=some (.int .i64 l[i].n):=by
 exact aaZ
abbrev rD (w:World) (g:Nat) (l:List jm):Prop:=GR.Blk aS 95 w g l
theorem rD.four {w:World} {g:Nat} {l:List jm} (h:rD w g l) (i:Nat) (hi:i < l.length):w.cell? ⟨g,i*4,none⟩=some (.int .i64 l[i].i)∧w.cell? ⟨g,i*4+1,none⟩=some (.int .i64 l[i].t)∧w.cell? ⟨g,i*4+2,none⟩=some (.string l[i].k)∧w.cell? ⟨g,i*4+3,none⟩=some (.int .i64 l[i].n):=
 ⟨by simpa using GR.Blk.cell h bH i hi 0 (by omega),by simpa using GR.Blk.cell h bH i hi 1 (by omega),by simpa using GR.Blk.cell h bH i hi 2 (by omega),by simpa using GR.Blk.cell h bH i hi 3 (by omega)⟩
theorem rD.step {w w':World} {g:Nat} {l:List jm} (h:rD w g l) (hb:Below w.heap.size w w'):rD w' g l:=by
 have hl:=GR.Blk.lt h;unfold rD GR.Blk at *;rw [hb.block g hl];exact h
theorem Ht:(Tryz.prog.info? 95).map (fun i=>(i.zero,i.size,i.bytes))=some (some (.agg #[.int .i64 0,.int .i64 0,.string ByteArray.empty,.int .i64 0]),4,40):=by kernel_rfl
end Go.Proofs.YtacgbldlonoaaaaGreatDoor
