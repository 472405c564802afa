/- Parts. -/
import Derived.Test.YtohmklmkjmlpjaaGreatDoorRkZ5
namespace Go.Proofs.YtohmklmkjmlpjaaGreatDoor.Mth
open Go.Proofs.Tryz
open Mth
variable (l:List UInt8)
def putF:Nat->Nat->List UInt8
 |0,n=>[UInt8.ofNat n]
 |f+1,n=>if n<=127 then[UInt8.ofNat n] else UInt8.ofNat (128+n % 128)::putF f (n / 128)
def put (n:Nat):List UInt8:=putF 5 n
theorem jo (f n:Nat) (h:n<=127):putF f n=[UInt8.ofNat n]:=by
 cases f with
 |zero=>rfl
 |succ f=>simp[putF,h]
theorem mP (f n:Nat) (h:¬n<=127):putF (f+1) n=UInt8.ofNat (128+n % 128)::putF f (n / 128):=by
 simp[putF,h]
theorem Qc (f n:Nat):(putF f n).length<=f+1:=by
 induction f generalizing n with
 |zero=>simp[putF]
 |succ f ih=>
  by_cases h:n<=127
  .rw [jo _ _ h];simp
  .rw [mP _ _ h];have:=ih (n / 128);simp;omega
theorem toNat_byte (n:Nat) (h:n < 256):(UInt8.ofNat n).toNat=n:=by
 simp[UInt8.toNat_ofNat'];omega
theorem put_round (n f cur:Nat) (pre:List UInt8) (hcur:cur < 128 ^ (f+1)) (hbig:¬cur<=127) (hpf:pre.length+f=5) (h:pre++putF f cur=put n):
 ∃f',f=f'+1/\cur / 128 < 128 ^ (f'+1)/\(pre++[UInt8.ofNat (128+cur % 128)]).length+f'=5/\(pre++[UInt8.ofNat (128+cur % 128)])++putF f' (cur / 128)=put n:=by
 cases f with
 |zero=>simp at hcur;omega
 |succ f'=>
  refine⟨f',rfl,?_,Aag,?_⟩
  .rw [Nat.div_lt_iff_lt_mul Aaa];rw [Nat.pow_succ] at hcur;exact hcur
  .rw [mP _ _ hbig] at h;rw [<-h];simp
theorem put_end (n f cur:Nat) (pre:List UInt8) (hs:cur<=127) (h:pre++putF f cur=put n):pre++[UInt8.ofNat cur]=put n:=by
 rw [jo _ _ hs] at h;exact h
theorem put_length (n:Nat):(put n).length<=6:=Qc 5 n
def sumStep (p:Nat×Nat) (c:UInt8):Nat×Nat:=((p.1+c.toNat) % 65521,(p.2+(p.1+c.toNat) % 65521) % 65521)
def sums (l:List UInt8):Nat×Nat:=l.foldl sumStep (1,0)
theorem sums_snoc (c:UInt8):sums (l++[c])=sumStep (sums l) c:=by simp[sums]
theorem sums_lt:(sums l).1 < 65521/\(sums l).2 < 65521:=by
 rcases List.eq_nil_or_concat l with rfl|⟨r,c,rfl⟩
 .simp[sums]
 .rw [List.concat_eq_append,sums_snoc];exact⟨Nat.mod_lt _ Aaa,Nat.mod_lt _ Aaa⟩
theorem take_snoc (s:ByteArray) (k:Nat) (h:k < s.size):s.data.toList.take (k+1)=s.data.toList.take k++[s[k]]:=by
 rw [List.take_succ_eq_append_getElem Abc];rfl
theorem take_all (s:ByteArray) (k:Nat) (h:¬k < s.size):s.data.toList.take k=s.data.toList:=by
 apply List.take_of_length_le
 simp only[Array.length_toList];show s.size<=k
 omega
def keyByte (c:UInt8):Bool:=decide (97<=(c.toNat:Int)/\(c.toNat:Int)<=122)||decide (48<=(c.toNat:Int)/\(c.toNat:Int)<=57)
theorem keyByte_yes (c:UInt8) (h:(97<=(c.toNat:Int)/\(c.toNat:Int)<=122)\/(48<=(c.toNat:Int)/\(c.toNat:Int)<=57)):keyByte c=true:=by
 unfold keyByte;simp;omega
theorem keyByte_no (c:UInt8) (h:(c.toNat:Int) < 48\/(57 < (c.toNat:Int)/\(c.toNat:Int) < 97)\/122 < (c.toNat:Int)):keyByte c=false:=by
 unfold keyByte;simp;omega
theorem byte_cases (c:UInt8):((97<=(c.toNat:Int)/\(c.toNat:Int)<=122)\/(48<=(c.toNat:Int)/\(c.toNat:Int)<=57))\/((c.toNat:Int) < 48\/(57 < (c.toNat:Int)/\(c.toNat:Int) < 97)\/122 < (c.toNat:Int)):=Aaa
def keyOk (l:List UInt8):Bool:=l.all keyByte&&decide (1<=l.length/\l.length<=10)
theorem all_snoc (c:UInt8):(l++[c]).all keyByte=(l.all keyByte&&keyByte c):=Aac
theorem keyOk_bad (k:Nat) (h:(l.take k).all keyByte=false):keyOk l=false:=by
 have:l.all keyByte=false:=by
  rw [List.all_eq_false] at h ⊢;obtain⟨x,hx,hp⟩:=h;exact⟨x,List.mem_of_mem_take hx,hp⟩
 simp[keyOk,this]
theorem keyOk_all (h:l.all keyByte=true):keyOk l=decide (1<=l.length/\l.length<=10):=by simp[keyOk,h]
theorem keyOk_len (h:¬(1<=l.length/\l.length<=10)):keyOk l=false:=by simp[keyOk];intro _;omega
end Go.Proofs.YtohmklmkjmlpjaaGreatDoor.Mth
namespace Go.Proofs.YtohmklmkjmlpjaaGreatDoor
open Go.Proofs.Tryz
open Go.RowKit
theorem Hq {p:Prop} (h:p):Hid p:=h
theorem ah {p:Prop} (h:Hid p):p:=h
theorem Mf {k:IntKind} {a b:Int} (h:a=b):Ending.returned (.int k a)= .returned (.int k b):=by rw [h]
theorem aF {a b:Bool} (h:a=b):Ending.returned (.bool a)= .returned (.bool b):=by rw [h]
theorem bq (s:ByteArray):s.data.toList.length=s.size:=Aac
theorem jY (s:ByteArray) (h:0 < s.size):s.toList.isEmpty=false:=by
 rw [ByteArray.toList_eq,List.isEmpty_eq_false_iff,<-List.length_pos_iff,bq];exact h
theorem eq_empty (s:ByteArray) (h:s.size=0):s=ByteArray.empty:=by
 apply ByteArray.ext;apply Array.eq_empty_of_size_eq_zero;exact h
theorem BX {W w1:World} (hb:Below W.heap.size W w1):(∀b o,b < W.heap.size->w1.cell? ⟨b,o,none⟩=W.cell? ⟨b,o,none⟩)/\(∀b o,b < W.heap.size->w1.frozen? ⟨b,o,none⟩=W.frozen? ⟨b,o,none⟩):=
 ⟨λb o h=>hb.cell (p:=⟨b,o,none⟩) h,λb o h=>hb.frozen (p:=⟨b,o,none⟩) h⟩
abbrev aI (w w':World):Prop:=Below w.heap.size w w'
abbrev eG (w:World) (v:Value) (e:Ending) (w':World):Prop:=e= .returned v/\Below w.heap.size w w'
namespace GR
open Go.RowKit
section
variable {α:Type} (enc:α->List Value) (sz:Nat)
def flat (l:List α):List Value:=l.flatMap enc
theorem flat_nil:flat enc []=[]:=rfl
theorem flat_cons (x:α) (r:List α):flat enc (x::r)=enc x++flat enc r:=rfl
theorem flat_append (l r:List α):flat enc (l++r)=flat enc l++flat enc r:=by simp[flat]
theorem flat_one (x:α):flat enc [x]=enc x:=by simp[flat]
theorem flat_length (h:∀x,(enc x).length=sz) (l:List α):(flat enc l).length=l.length*sz:=by
 induction l with
 |nil=>simp[flat]
 |cons x r ih=>rw [flat_cons,List.length_append,ih,h,List.length_cons,Nat.add_mul,Nat.one_mul,Nat.add_comm]
theorem flat_at (h:∀x,(enc x).length=sz):∀(l:List α) (i:Nat) (hi:i < l.length) (j:Nat),j < sz->(flat enc l)[i*sz+j]?=(enc l[i])[j]?:=by
 intro l;induction l with
 |nil=>intro i hi;simp at hi
 |cons x r ih=>
  intro i hi j hj;rw [flat_cons];cases i with
  |zero=>
   rw [Nat.zero_mul,Nat.zero_add,List.getElem?_append_left (by rw [h];exact hj)];rfl
  |succ i=>
   have e:(i+1)*sz+j=sz+(i*sz+j):=by rw [Nat.add_mul,Nat.one_mul];omega
   rw [List.getElem?_append_right (by rw [h];omega),h,e,Nat.add_sub_cancel_left,ih i Aap j hj];rfl
def setRun (xs:List Value) (o:Nat):List Value->List Value
 |[]=>xs
 |v::vs=>setRun (xs.set o v) (o+1) vs
theorem setRun_append_right (a:List Value):∀(vs:List Value) (o:Nat) (b:List Value),setRun (a++b) (a.length+o) vs=a++setRun b o vs:=by
 intro vs;induction vs with
 |nil=>intro o b;rfl
 |cons v vs ih=>
  intro o b;show setRun ((a++b).set (a.length+o) v) (a.length+o+1) vs=a++setRun (b.set o v) (o+1) vs
  rw [List.set_append_right _ _ Aaa,Nat.add_sub_cancel_left,Nat.add_assoc,ih]
theorem setRun_head:∀(vs a b:List Value),vs.length=a.length->setRun (a++b) 0 vs=vs++b:=by
 intro vs;induction vs with
 |nil=>intro a b h;have:a=[]:=List.eq_nil_of_length_eq_zero (by simpa using h.symm);subst this;rfl
 |cons v vs ih=>
  intro a b h;cases a with
  |nil=>simp at h
  |cons y a=>
   show setRun (((y::a)++b).set 0 v) (0+1) vs=v::vs++b
   have e:((y::a)++b).set 0 v=[v]++(a++b):=rfl;rw [e,Nat.zero_add];have h2:=setRun_append_right [v] vs 0 (a++b);simp only[List.length_singleton,Nat.add_zero] at h2;rw [h2,ih a b Abc];rfl
theorem flat_set (h:∀x,(enc x).length=sz):∀(l:List α) (i:Nat) (x:α),i < l.length->setRun (flat enc l) (i*sz) (enc x)=flat enc (l.set i x):=by
 intro l;induction l with
 |nil=>intro i x hi;simp at hi
 |cons y r ih=>
  intro i x hi;cases i with
  |zero=>
   rw [Nat.zero_mul,flat_cons,setRun_head _ _ _ (by rw [h,h])];rfl
  |succ i=>
   have e:(i+1)*sz=(enc y).length+i*sz:=by rw [h,Nat.add_mul,Nat.one_mul,Nat.add_comm]
   rw [flat_cons,e,setRun_append_right _,ih i x Aap];rfl
def At (w:World) (a:Option Addr) (l:List α):Prop:=∀i (hi:i < l.length),∃g off,a=some ⟨g,off,none⟩/\g < w.heap.size/\∀j,j < sz->w.cell? ⟨g,off+(i*sz+j),none⟩=(enc l[i])[j]?
theorem At.below {enc:α->List Value} {sz:Nat} {w w':World} {a:Option Addr} {l:List α} (h:At enc sz w a l) (hb:aI w w'):At enc sz w' a l:=λi hi=>by
 obtain⟨g,off,e,hg,hc⟩:=h i hi;exact⟨g,off,e,Nat.lt_of_lt_of_le hg hb.size,λj hj=>(hb.cell (p:=⟨g,off+(i*sz+j),none⟩) hg).trans (hc j hj)⟩
theorem at_nil {w:World} {a:Option Addr}:At enc sz w a []:=λi hi=>by simp at hi
def Blk (t:TypeId) (w:World) (g:Nat) (l:List α):Prop:=w.heap[g]?=some (.cells (flat enc l).toArray t (0,0))
theorem Blk.cell {enc:α->List Value} {sz:Nat} {t:TypeId} {w:World} {g:Nat} {l:List α} (h:Blk enc t w g l) (hs:∀x,(enc x).length=sz) (i:Nat) (hi:i < l.length) (j:Nat) (hj:j < sz):w.cell? ⟨g,i*sz+j,none⟩=(enc l[i])[j]?:=by
 rw [cell_of_row w g _ _ t (0,0) h];simpa using flat_at enc sz hs l i hi j hj
theorem Blk.free {enc:α->List Value} {t:TypeId} {w:World} {g:Nat} {l:List α} (h:Blk enc t w g l) (i:Nat):w.frozen? ⟨g,i,none⟩=false:=by
 unfold World.frozen?;rw [h];simp
theorem Blk.lt {enc:α->List Value} {t:TypeId} {w:World} {g:Nat} {l:List α} (h:Blk enc t w g l):g < w.heap.size:=by
 rcases Nat.lt_or_ge g w.heap.size with h'|h'
 .exact h'
 .rw [Blk,Array.getElem?_eq_none h'] at h;cases h
theorem Blk.at {enc:α->List Value} {sz:Nat} {t:TypeId} {w:World} {g:Nat} {l:List α} (h:Blk enc t w g l) (hs:∀x,(enc x).length=sz):At enc sz w (some ⟨g,0,none⟩) l:=λi hi=>
 ⟨g,0,rfl,h.lt,λj hj=>by rw [Nat.zero_add];exact h.cell hs i hi j hj⟩
def setW (w:World) (g o:Nat):List Value->World
 |[]=>w
 |v::vs=>setW (w.setCell ⟨g,o,none⟩ v) g (o+1) vs
theorem setW_blk:∀(vs:List Value) {w:World} {g o:Nat} {xs:List Value} {t:TypeId},w.heap[g]?=some (.cells xs.toArray t (0,0))->(setW w g o vs).heap[g]?=some (.cells (setRun xs o vs).toArray t (0,0)):=by
 intro vs;induction vs with
 |nil=>intro w g o xs t h;exact h
 |cons v vs ih=>
  intro w g o xs t h;refine ih (xs:=xs.set o v) ?_;unfold World.setCell;simp only[Array.getElem?_modify];rw [if_pos trivial,h];simp
theorem Blk.set {enc:α->List Value} {sz:Nat} {t:TypeId} {w:World} {g:Nat} {l:List α} (h:Blk enc t w g l) (hs:∀x,(enc x).length=sz) (i:Nat) (hi:i < l.length) (x:α):Blk enc t (setW w g (i*sz) (enc x)) g (l.set i x):=by
 have h2:=setW_blk (enc x) (o:=i*sz) h;rw [flat_set enc sz hs l i x hi] at h2;exact h2
theorem setW_below {B:Nat} {a:World} {g:Nat} (hg:B<=g):∀(vs:List Value) {w:World} {o:Nat},Below B a w->Below B a (setW w g o vs):=by
 intro vs;induction vs with
 |nil=>intro w o h;exact h
 |cons v vs ih=>intro w o h;exact ih (h.setCell (p:=⟨g,o,none⟩) hg v)
theorem setW_other {g g':Nat} (hne:g'≠g):∀(vs:List Value) {w:World} {o:Nat},(setW w g o vs).heap[g']?=w.heap[g']?:=by
 intro vs;induction vs with
 |nil=>intro w o;rfl
 |cons v vs ih=>intro w o;exact(ih (w:=w.setCell ⟨g,o,none⟩ v)).trans (Below.heap_setCell _ _ _ _ hne)
theorem made_flat (h:∀x,(enc x).length=sz) (hz:0 < sz) (x:α) (z:Array Value) (he:z.toList=enc x) (n:Nat):madeCells z (n*sz)=(flat enc (List.replicate n x)).toArray:=by
 have hzs:z.size=sz:=by rw [<-Array.length_toList,he,h]
 apply Array.ext_getElem?
 intro k;by_cases hk:k < n*sz
 .have hq:k / sz < n:=Nat.div_lt_of_lt_mul (by rw [Nat.mul_comm];exact hk);have hr:k % sz < sz:=Nat.mod_lt _ hz;have hf:=flat_at enc sz h (List.replicate n x) (k / sz) Abk (k % sz) hr;have ek:k / sz*sz+k % sz=k:=Nat.div_add_mod' k sz;rw [ek] at hf;have h1:(madeCells z (n*sz))[k]?=some (z[k % z.size]!):=by simp[madeCells,hk]
  rw [h1,hzs]
  have h2:(flat enc (List.replicate n x)).toArray[k]?=(enc x)[k % sz]?:=by
   rw [List.getElem?_toArray,hf];simp
  rw [h2,<-he];have h3:k % sz < z.size:=Aaa
  rw [getElem!_pos z (k % sz) h3,Array.getElem?_toList,Array.getElem?_eq_getElem h3]
 .have h1:(madeCells z (n*sz)).size<=k:=by simp[madeCells];omega
  have h2:(flat enc (List.replicate n x)).toArray.size<=k:=by
   rw [List.size_toArray,flat_length enc sz h];simp;omega
  rw [Array.getElem?_eq_none h1,Array.getElem?_eq_none h2]
theorem own_at {enc:α->List Value} {sz:Nat} {w:World} {base:Nat} {e:TypeId} {v:Value} {l:List α} (hs:∀x,(enc x).length=sz) (h:w.ownsRow base e sz v l.length (flat enc l)):∃a cap,v= .slice a l.length cap/\At enc sz w a l:=by
 rcases h.2 with⟨rfl,hn⟩|⟨g,cap,cur,rfl,hg,hblk,_⟩
 .exact⟨none,0,by rw [hn],λi hi=>Aaa⟩
 .refine⟨_,cap,rfl,λi hi=>⟨g,0,rfl,?_,λj hj=>?_⟩⟩
  .rcases Nat.lt_or_ge g w.heap.size with h'|h'
   .exact h'
   .rw [Array.getElem?_eq_none h'] at hblk;cases hblk
  .have hf:=flat_at enc sz hs l i hi j hj;have hj':j < (enc l[i]).length:=by rw [hs];exact hj
   rw [List.getElem?_eq_getElem hj'] at hf ⊢;have:=h.cells rfl (i*sz+j) _ hf;have ea:(⟨g,0,none⟩:Addr).add (i*sz+j)=⟨g,0+(i*sz+j),none⟩:=by unfold Addr.add;split<;>simp_all
   rw [ea] at this;exact this
end
end GR
end Go.Proofs.YtohmklmkjmlpjaaGreatDoor
namespace Go.Proofs.YtohmklmkjmlpjaaGreatDoor.Mth
open Go.Proofs.Tryz
open Go.Lib (decDigits itoa)
end Go.Proofs.YtohmklmkjmlpjaaGreatDoor.Mth
namespace Go.Proofs.YtohmklmkjmlpjaaGreatDoor
open Go.Proofs.Tryz
open Go.RowKit
open Mth
variable {g:Nat} {w w':World}
def azn (w:World) (g:Nat) (xs:List ByteArray):Prop:=w.heap[g]?=some (.cells (xs.map Value.string).toArray 9 (0,0))
structure Keeps (g:Nat) (w w':World):Prop where
 os:w'.os=w.os
 tape:w'.tape=w.tape
 output:w'.output=w.output
 size:w.heap.size<=w'.heap.size
 block:∀k,k < w.heap.size->k≠g->w'.heap[k]?=w.heap[k]?
theorem Keeps.refl (g:Nat) (w:World):Keeps g w w:=⟨rfl,rfl,rfl,Nat.le_refl _,λ_ _ _=>rfl⟩
theorem Keeps.trans {a b c:World} (h:Keeps g a b) (k:Keeps g b c):Keeps g a c:=
 ⟨k.os.trans h.os,k.tape.trans h.tape,k.output.trans h.output,Nat.le_trans h.size k.size,λi hi hg=>(k.block i (Nat.lt_of_lt_of_le hi h.size) hg).trans (h.block i hi hg)⟩
theorem Keeps.of_below (h:aI w w'):Keeps g w w':=⟨h.os,h.tape,h.output,h.size,λk hk _=>h.block k hk⟩
theorem Keeps.set {i:Nat} (v:Value):Keeps g w (w.setCell ⟨g,i,none⟩ v):=
 ⟨rfl,rfl,rfl,Aaq,λk _ hg=>Below.heap_setCell _ _ _ _ hg⟩
theorem Keeps.below {B:Nat} (h:Keeps g w w') (hB:B<=g) (hs:B<=w.heap.size):Below B w w':=⟨h.os,h.tape,h.output,h.size,λk hk=>h.block k Aaa Aaa⟩
open Go.Shelf Go.Proofs
def uK:Go.Shelf.Ren:=⟨fun|17=>318|22=>311|29=>314|30=>315|36=>317|26=>310|33=>312|34=>313|38=>316|n=>n,fun|0=>0|3=>3|4=>4|9=>9|24=>350|40=>220|n=>n,λn=>n⟩
theorem tX:Lays2.n22 prog uK:={
 mixed:=Aab
 f17:=func318.trans (congrArg some Aab)
 f22:=func311.trans (congrArg some Aab)
 f29:=func314.trans (congrArg some Aab)
 f30:=func315.trans (congrArg some Aab)
 f36:=func317.trans (congrArg some Aab)
 t0:=underlying0
 a0:=isAgg0
 z0:=sizeOf0
 v0:=zeroValue0
 t3:=underlying3
 a3:=isAgg3
 z3:=sizeOf3
 v3:=zeroValue3
 t4:=underlying4
 a4:=isAgg4
 z4:=sizeOf4
 v4:=zeroValue4
 t9:=underlying9
 a9:=isAgg9
 z9:=sizeOf9
 v9:=zeroValue9
 t24:=underlying350
 a24:=isAgg350
 z24:=sizeOf350
 v24:=zeroValue350
 i9:=by kernel_rfl}
theorem ET:Lays2.n26 prog uK:={
 mixed:=Aab
 f26:=func310.trans (congrArg some Aab)
 f33:=func312.trans (congrArg some Aab)
 f34:=func313.trans (congrArg some Aab)
 f38:=func316.trans (congrArg some Aab)
 t0:=underlying0
 a0:=isAgg0
 z0:=sizeOf0
 v0:=zeroValue0
 t3:=underlying3
 a3:=isAgg3
 z3:=sizeOf3
 v3:=zeroValue3
 t4:=underlying4
 a4:=isAgg4
 z4:=sizeOf4
 v4:=zeroValue4
 t9:=underlying9
 a9:=isAgg9
 z9:=sizeOf9
 v9:=zeroValue9
 t24:=underlying350
 a24:=isAgg350
 z24:=sizeOf350
 v24:=zeroValue350
 t40:=underlying220
 a40:=isAgg220
 z40:=sizeOf220
 v40:=zeroValue220}
end Go.Proofs.YtohmklmkjmlpjaaGreatDoor
