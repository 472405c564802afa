/- Parts. -/
import Derived.Test.YtacgbldlonoaaaaGreatDoorRr1
namespace Go.Proofs.YtacgbldlonoaaaaGreatDoor
set_option maxHeartbeats 4000000
namespace GR
open Go.RowKit
section
variable {α:Type} (enc:α->List Value) (sz:Nat)
def flat (l:List α):List Value:=l.flatMap enc
theorem flat_nil:flat enc []=[]:=rfl
theorem flat_cons (x:α) (r:List α):flat enc (x::r)=enc x++flat enc r:=rfl
theorem flat_append (l r:List α):flat enc (l++r)=flat enc l++flat enc r:=by simp[flat]
theorem flat_one (x:α):flat enc [x]=enc x:=by simp[flat]
theorem flat_length (h:∀x,(enc x).length=sz) (l:List α):(flat enc l).length=l.length*sz:=by
 induction l with
 |nil=>simp[flat]
 |cons x r ih=>rw [flat_cons,List.length_append,ih,h,List.length_cons,Nat.add_mul,Nat.one_mul,Nat.add_comm]
theorem flat_at (h:∀x,(enc x).length=sz):∀(l:List α) (i:Nat) (hi:i < l.length) (j:Nat),j < sz->(flat enc l)[i*sz+j]?=(enc l[i])[j]?:=by
 intro l;induction l with
 |nil=>intro i hi;simp at hi
 |cons x r ih=>
  intro i hi j hj
  rw [flat_cons]
  cases i with
  |zero=>
   rw [Nat.zero_mul,Nat.zero_add,List.getElem?_append_left (by rw [h];exact hj)]
   rfl
  |succ i=>
   have e:(i+1)*sz+j=sz+(i*sz+j):=by rw [Nat.add_mul,Nat.one_mul];omega
   rw [List.getElem?_append_right (by rw [h];omega),h,e,Nat.add_sub_cancel_left,ih i Aap j hj]
   rfl
def setRun (xs:List Value) (o:Nat):List Value->List Value
 |[]=>xs
 |v::vs=>setRun (xs.set o v) (o+1) vs
theorem setRun_append_right (a:List Value):∀(vs:List Value) (o:Nat) (b:List Value),setRun (a++b) (a.length+o) vs=a++setRun b o vs:=by
 intro vs;induction vs with
 |nil=>intro o b;rfl
 |cons v vs ih=>
  intro o b
  show setRun ((a++b).set (a.length+o) v) (a.length+o+1) vs=a++setRun (b.set o v) (o+1) vs
  rw [List.set_append_right _ _ Aaa,Nat.add_sub_cancel_left,Nat.add_assoc,ih]
theorem setRun_head:∀(vs a b:List Value),vs.length=a.length->setRun (a++b) 0 vs=vs++b:=by
 intro vs;induction vs with
 |nil=>intro a b h;have:a=[]:=List.eq_nil_of_length_eq_zero (by simpa using h.symm);subst this;rfl
 |cons v vs ih=>
  intro a b h
  cases a with
  |nil=>simp at h
  |cons y a=>
   show setRun (((y::a)++b).set 0 v) (0+1) vs=v::vs++b
   have e:((y::a)++b).set 0 v=[v]++(a++b):=rfl
   rw [e,Nat.zero_add]
   have h2:=setRun_append_right [v] vs 0 (a++b)
   simp only[List.length_singleton,Nat.add_zero] at h2
   rw [h2,ih a b Abi]
   rfl
theorem flat_set (h:∀x,(enc x).length=sz):∀(l:List α) (i:Nat) (x:α),i < l.length->setRun (flat enc l) (i*sz) (enc x)=flat enc (l.set i x):=by
 intro l;induction l with
 |nil=>intro i x hi;simp at hi
 |cons y r ih=>
  intro i x hi
  cases i with
  |zero=>
   rw [Nat.zero_mul,flat_cons,setRun_head _ _ _ (by rw [h,h])]
   rfl
  |succ i=>
   have e:(i+1)*sz=(enc y).length+i*sz:=by rw [h,Nat.add_mul,Nat.one_mul,Nat.add_comm]
   rw [flat_cons,e,setRun_append_right _,ih i x Aap]
   rfl
def At (w:World) (a:Option Addr) (l:List α):Prop:=∀i (hi:i < l.length),∃g off,a=some ⟨g,off,none⟩/\g < w.heap.size/\∀j,j < sz->w.cell? ⟨g,off+(i*sz+j),none⟩=(enc l[i])[j]?
theorem At.below {enc:α->List Value} {sz:Nat} {w w':World} {a:Option Addr} {l:List α} (h:At enc sz w a l) (hb:aX w w'):At enc sz w' a l:=λi hi=>by
 obtain⟨g,off,e,hg,hc⟩:=h i hi;exact⟨g,off,e,Nat.lt_of_lt_of_le hg hb.size,λj hj=>(hb.cell (p:=⟨g,off+(i*sz+j),none⟩) hg).trans (hc j hj)⟩
theorem at_nil {w:World} {a:Option Addr}:At enc sz w a []:=λi hi=>by simp at hi
def Blk (t:TypeId) (w:World) (g:Nat) (l:List α):Prop:=w.heap[g]?=some (.cells (flat enc l).toArray t (0,0))
theorem Blk.cell {enc:α->List Value} {sz:Nat} {t:TypeId} {w:World} {g:Nat} {l:List α} (h:Blk enc t w g l) (hs:∀x,(enc x).length=sz) (i:Nat) (hi:i < l.length) (j:Nat) (hj:j < sz):w.cell? ⟨g,i*sz+j,none⟩=(enc l[i])[j]?:=by
 rw [cell_of_row w g _ _ t (0,0) h];simpa using flat_at enc sz hs l i hi j hj
theorem Blk.free {enc:α->List Value} {t:TypeId} {w:World} {g:Nat} {l:List α} (h:Blk enc t w g l) (i:Nat):w.frozen? ⟨g,i,none⟩=false:=by
 unfold World.frozen?;rw [h];simp
theorem Blk.lt {enc:α->List Value} {t:TypeId} {w:World} {g:Nat} {l:List α} (h:Blk enc t w g l):g < w.heap.size:=by
 rcases Nat.lt_or_ge g w.heap.size with h'|h'
 .exact h'
 .rw [Blk,Array.getElem?_eq_none h'] at h;cases h
theorem Blk.at {enc:α->List Value} {sz:Nat} {t:TypeId} {w:World} {g:Nat} {l:List α} (h:Blk enc t w g l) (hs:∀x,(enc x).length=sz):At enc sz w (some ⟨g,0,none⟩) l:=λi hi=>
 ⟨g,0,rfl,h.lt,λj hj=>by rw [Nat.zero_add];exact h.cell hs i hi j hj⟩
def setW (w:World) (g o:Nat):List Value->World
 |[]=>w
 |v::vs=>setW (w.setCell ⟨g,o,none⟩ v) g (o+1) vs
theorem setW_blk:∀(vs:List Value) {w:World} {g o:Nat} {xs:List Value} {t:TypeId},w.heap[g]?=some (.cells xs.toArray t (0,0))->(setW w g o vs).heap[g]?=some (.cells (setRun xs o vs).toArray t (0,0)):=by
 intro vs;induction vs with
 |nil=>intro w g o xs t h;exact h
 |cons v vs ih=>
  intro w g o xs t h
  refine ih (xs:=xs.set o v) ?_
  unfold World.setCell
  simp only[Array.getElem?_modify]
  rw [if_pos trivial,h]
  simp
theorem Blk.set {enc:α->List Value} {sz:Nat} {t:TypeId} {w:World} {g:Nat} {l:List α} (h:Blk enc t w g l) (hs:∀x,(enc x).length=sz) (i:Nat) (hi:i < l.length) (x:α):Blk enc t (setW w g (i*sz) (enc x)) g (l.set i x):=by
 have h2:=setW_blk (enc x) (o:=i*sz) h;rw [flat_set enc sz hs l i x hi] at h2;exact h2
theorem setW_below {B:Nat} {a:World} {g:Nat} (hg:B<=g):∀(vs:List Value) {w:World} {o:Nat},Below B a w->Below B a (setW w g o vs):=by
 intro vs;induction vs with
 |nil=>intro w o h;exact h
 |cons v vs ih=>intro w o h;exact ih (h.setCell (p:=⟨g,o,none⟩) hg v)
theorem setW_other {g g':Nat} (hne:g'≠g):∀(vs:List Value) {w:World} {o:Nat},(setW w g o vs).heap[g']?=w.heap[g']?:=by
 intro vs;induction vs with
 |nil=>intro w o;rfl
 |cons v vs ih=>intro w o;exact(ih (w:=w.setCell ⟨g,o,none⟩ v)).trans (Below.heap_setCell _ _ _ _ hne)
theorem made_flat (h:∀x,(enc x).length=sz) (hz:0 < sz) (x:α) (z:Array Value) (he:z.toList=enc x) (n:Nat):madeCells z (n*sz)=(flat enc (List.replicate n x)).toArray:=by
 have hzs:z.size=sz:=by rw [<-Array.length_toList,he,h]
 apply Array.ext_getElem?
 intro k;by_cases hk:k < n*sz
 .have hq:k / sz < n:=Nat.div_lt_of_lt_mul (by rw [Nat.mul_comm];exact hk);have hr:k % sz < sz:=Nat.mod_lt _ hz;have hf:=flat_at enc sz h (List.replicate n x) (k / sz) (by simpa using hq) (k % sz) hr;have ek:k / sz*sz+k % sz=k:=Nat.div_add_mod' k sz;rw [ek] at hf;have h1:(madeCells z (n*sz))[k]?=some (z[k % z.size]!):=by simp[madeCells,hk]
  rw [h1,hzs]
  have h2:(flat enc (List.replicate n x)).toArray[k]?=(enc x)[k % sz]?:=by
   rw [List.getElem?_toArray,hf];simp
  rw [h2,<-he];have h3:k % sz < z.size:=Aaa
  rw [getElem!_pos z (k % sz) h3,Array.getElem?_toList,Array.getElem?_eq_getElem h3]
 .have h1:(madeCells z (n*sz)).size<=k:=by simp[madeCells];omega
  have h2:(flat enc (List.replicate n x)).toArray.size<=k:=by
   rw [List.size_toArray,flat_length enc sz h];simp;omega
  rw [Array.getElem?_eq_none h1,Array.getElem?_eq_none h2]
theorem own_at {enc:α->List Value} {sz:Nat} {w:World} {base:Nat} {e:TypeId} {v:Value} {l:List α} (hs:∀x,(enc x).length=sz) (h:w.ownsRow base e sz v l.length (flat enc l)):∃a cap,v= .slice a l.length cap/\At enc sz w a l:=by
 rcases h.2 with⟨rfl,hn⟩|⟨g,cap,cur,rfl,hg,hblk,_⟩
 .exact⟨none,0,by rw [hn],λi hi=>Aaa⟩
 .refine⟨_,cap,rfl,λi hi=>⟨g,0,rfl,?_,λj hj=>?_⟩⟩
  .rcases Nat.lt_or_ge g w.heap.size with h'|h'
   .exact h'
   .rw [Array.getElem?_eq_none h'] at hblk;cases hblk
  .have hf:=flat_at enc sz hs l i hi j hj;have hj':j < (enc l[i]).length:=by rw [hs];exact hj
   rw [List.getElem?_eq_getElem hj'] at hf ⊢;have:=h.cells rfl (i*sz+j) _ hf;have ea:(⟨g,0,none⟩:Addr).add (i*sz+j)=⟨g,0+(i*sz+j),none⟩:=by unfold Addr.add;split<;>simp_all
   rw [ea] at this;exact this
end
end GR
namespace Mth
structure Pu where
 k:ByteArray
 m:Int
 f:Int
 s:Int
instance:Inhabited Pu:=⟨⟨ByteArray.empty,0,0,0⟩⟩
abbrev fE (p:Pu):List Value:=[.string p.k,.int .i64 p.m,.int .i64 p.f,.int .i64 p.s]
abbrev zi (p:Pu):Value:= .agg #[.string p.k,.int .i64 p.m,.int .i64 p.f,.int .i64 p.s]
theorem aZ (p:Pu):(fE p).length=4:=rfl
def sle (a b:ByteArray):Bool:=Op.bytesLess a.toList b.toList||a.toList == b.toList
def pz (n:Int):Bool:=decide (0<=n/\n<=1000000000)
def gJ (p:Pu):Bool:=keyOk p.k.data.toList&&pz p.m&&pz p.f&&pz p.s&&pz (p.f+p.s)
def jT (l:List Pu) (i:Nat):Bool:=gJ (l.getD i default)&&(i == 0|| !sle (l.getD i default).k (l.getD (i - 1) default).k)
def iW (l:List Pu):Bool:=(List.range l.length).all (jT l)&&decide (l.length<=20)
theorem lC (f:Nat->Bool) (k:Nat):(List.range (k+1)).all f=((List.range k).all f&&f k):=by
 rw [List.range_succ,List.all_append];simp
theorem iC {l:List Pu} {i:Nat} (hi:i < l.length) (h:jT l i=false):iW l=false:=by
 unfold iW
 have:(List.range l.length).all (jT l)=false:=by
  rw [List.all_eq_false];exact⟨i,List.mem_range.2 hi,by rw [h];simp⟩
 rw [this];rfl
theorem Uu {l:List Pu} (h:(List.range l.length).all (jT l)=true):iW l=decide (l.length<=20):=by unfold iW;rw [h];rfl
def aG (l:List Pu) (k:ByteArray):Pu:=(l.find? λp=>p.k.toList == k.toList).getD ⟨k,0,0,0⟩
theorem GN (f:Pu->Bool) (l:List Pu) (i:Nat) (hi:i < l.length) (h:(l.take i).find? f=none):(f l[i]=true->l.find? f=some l[i])/\(f l[i]=false->(l.take (i+1)).find? f=none):=by
 exact asF
theorem getD_at (l:List Pu) (i:Nat) (hi:i < l.length):l.getD i default=l[i]:=by rw [List.getD_eq_getElem?_getD,List.getElem?_eq_getElem hi];rfl
end Mth
abbrev iL (k:ByteArray) (m f s:Int):Array Value:=#[.string k,.int .i64 m,.int .i64 f,.int .i64 s]
abbrev eU (i t:Int) (k:ByteArray) (n:Int):Array Value:=#[.int .i64 i,.int .i64 t,.string k,.int .i64 n]
abbrev dX (i:Int) (k:ByteArray) (n s:Int):Array Value:=#[.int .i64 i,.string k,.int .i64 n,.int .i64 s]
namespace Mth
abbrev JB (a b:Pu):Prop:=a.k.toList < b.k.toList
theorem oH (a b:ByteArray):Op.bytesLess a.toList b.toList=true↔a.toList < b.toList:=by
 rw [bytesLess_eq,decide_eq_true_iff]
theorem mU (a b:ByteArray):sle a b=false↔b.toList < a.toList:=by
 unfold sle;rw [bytesLess_eq,Bool.or_eq_false_iff,decide_eq_false_iff_not,beq_eq_false_iff_ne];constructor
 .rintro⟨h1,h2⟩;rcases List.le_iff_lt_or_eq.1 (List.not_lt.1 h1) with h|h
  .exact h
  .exact absurd h.symm h2
 .intro h;exact⟨List.lt_asymm h,λe=>by rw [e] at h;exact List.lt_irrefl _ h⟩
theorem zY {R:Pu->Pu->Prop} (tr:∀a b c,R a b->R b c->R a c):∀(l:List Pu),(∀i (h:i+1 < l.length),R l[i] l[i+1])->l.Pairwise R:=by
 intro l;induction l with
 |nil=>intro _;exact List.Pairwise.nil
 |cons x r ih=>
  intro h
  have hr:r.Pairwise R:=ih λi hi=>h (i+1) Aap
  refine List.Pairwise.cons ?_ hr
  intro y hy
  cases r with
  |nil=>simp at hy
  |cons z s=>
   have hxz:R x z:=h 0 Aac
   rcases List.mem_cons.1 hy with rfl|hy
   .exact hxz
   .exact tr _ _ _ hxz ((List.pairwise_cons.1 hr).1 y hy)
theorem jJ (l:List Pu):iW l=true↔(∀p∈l,gJ p=true)/\l.Pairwise JB/\l.length<=20:=by
 unfold iW;rw [Bool.and_eq_true,List.all_eq_true,decide_eq_true_iff];constructor
 .rintro⟨h,h20⟩;refine⟨?_,?_,h20⟩
  .intro p hp;obtain⟨i,hi,rfl⟩:=List.mem_iff_getElem.1 hp;have h1:=h i (List.mem_range.2 hi);unfold jT at h1;rw [Bool.and_eq_true] at h1;simpa [List.getD,hi] using h1.1
  .refine zY (λa b c (h1:JB a b) (h2:JB b c)=>(List.lt_trans h1 h2:JB a c)) l λi hi=>?_
   have h1:=h (i+1) (List.mem_range.2 hi);unfold jT at h1;rw [Bool.and_eq_true] at h1;have h2:=h1.2;have hi0:i < l.length:=Aaa
   simp[List.getD,hi,hi0] at h2;exact(mU _ _).1 h2
 .rintro⟨h,hp,h20⟩;refine⟨?_,h20⟩;intro i hi;have hi':=List.mem_range.1 hi;unfold jT;rw [Bool.and_eq_true];refine⟨by simpa [List.getD,hi'] using h l[i] (List.getElem_mem hi'),?_⟩;cases i with
  |zero=>rfl
  |succ i=>
   have hi0:i < l.length:=Aaa
   have h2:=(mU l[i+1].k l[i].k).2 (List.pairwise_iff_getElem.1 hp i (i+1) hi0 hi' Aaa)
   simp[List.getD,hi',hi0,h2]
def qJ (l:List Pu) (k:ByteArray):List Pu:=l.takeWhile λq=>Op.bytesLess q.k.toList k.toList
def kD (l:List Pu) (k:ByteArray):List Pu:=l.dropWhile λq=>Op.bytesLess q.k.toList k.toList
def jY (l:List Pu) (k:ByteArray):List Pu:=match kD l k with
 |[]=>[]
 |q::r=>if q.k.toList == k.toList then r else q::r
def iP (l:List Pu) (p:Pu):List Pu:=qJ l p.k++p::jY l p.k
theorem uY (l:List Pu) (k:ByteArray):qJ l k++kD l k=l:=List.takeWhile_append_dropWhile
theorem Gb (f:Pu->Bool):∀(l:List Pu) (q:Pu),q∈l.takeWhile f->f q=true:=by
 intro l;induction l with
 |nil=>intro q hq;simp at hq
 |cons x r ih=>
  intro q hq
  rw [List.takeWhile_cons] at hq
  split at hq
  .rename_i hx
   rcases List.mem_cons.1 hq with rfl|hq
   .exact hx
   .exact ih q hq
  .simp at hq
theorem xW {l:List Pu} {k:ByteArray} {q:Pu} (h:q∈qJ l k):q.k.toList < k.toList:=(oH _ _).1 (Gb _ l q h)
theorem Eo (l:List Pu) (k:ByteArray):∀q∈jY l k,q∈kD l k:=by
 intro q hq;unfold jY at hq;split at hq
 .simp at hq
 .rename_i x r e
  rw [e];split at hq
  .exact List.mem_cons_of_mem _ hq
  .exact hq
theorem zL (l:List Pu) (k:ByteArray) (q:Pu) (r:List Pu) (h:kD l k=q::r):¬q.k.toList < k.toList:=by
 unfold kD at h;have h2:=List.head?_dropWhile_not (λq:Pu=>Op.bytesLess q.k.toList k.toList) l;rw [h] at h2;simp at h2;intro h3;rw [(oH _ _).2 h3] at h2;cases h2
theorem Kj {l:List Pu} {k:ByteArray} (hp:l.Pairwise JB):∀q∈jY l k,k.toList < q.k.toList:=by
 have hp2:(kD l k).Pairwise JB:=hp.sublist (List.dropWhile_sublist _);unfold jY;cases hf:kD l k with
 |nil=>intro q hq;simp at hq
 |cons x r=>
  have hx:=zL l k x r hf
  rw [hf] at hp2
  have hr:=(List.pairwise_cons.1 hp2).1
  dsimp only
  by_cases he:x.k.toList=k.toList
  .rw [if_pos (by simpa using he)];intro q hq;have:=hr q hq;unfold JB at this;rw [he] at this;exact this
  .rw [if_neg (by simpa using he)]
   have hkx:k.toList < x.k.toList:=by
    rcases List.le_iff_lt_or_eq.1 (List.not_lt.1 hx) with h|h
    .exact h
    .exact absurd h.symm he
   intro q hq;rcases List.mem_cons.1 hq with rfl|hq
   .exact hkx
   .exact List.lt_trans hkx (hr q hq)
theorem Ga {l:List Pu} {k:ByteArray} (hp:l.Pairwise JB):(jY l k).Pairwise JB:=by
 have hp2:(kD l k).Pairwise JB:=hp.sublist (List.dropWhile_sublist _);unfold jY;cases hf:kD l k with
 |nil=>exact List.Pairwise.nil
 |cons x r=>
  rw [hf] at hp2
  dsimp only
  split
  .exact(List.pairwise_cons.1 hp2).2
  .exact hp2
theorem Zk {l:List Pu} (p:Pu) (h:iW l=true):iW (iP l p)=(gJ p&&decide ((iP l p).length<=20)):=by
 obtain⟨h1,h2,h3⟩:=(jJ l).1 h;apply Bool.eq_iff_iff.2
 rw [jJ,Bool.and_eq_true,decide_eq_true_iff];constructor
 .rintro⟨g1,_,g3⟩;exact⟨g1 p (by unfold iP;simp),g3⟩
 .rintro⟨g1,g3⟩;refine⟨?_,?_,g3⟩
  .intro q hq;unfold iP at hq;rcases List.mem_append.1 hq with hq|hq
   .exact h1 q ((List.takeWhile_sublist _).mem hq)
   .rcases List.mem_cons.1 hq with rfl|hq
    .exact g1
    .exact h1 q ((List.dropWhile_sublist _).mem (Eo l p.k q hq))
  .unfold iP;rw [List.pairwise_append];refine⟨h2.sublist (List.takeWhile_sublist _),List.pairwise_cons.2 ⟨λq hq=>Kj h2 q hq,Ga h2⟩,?_⟩;intro q hq q' hq';rcases List.mem_cons.1 hq' with rfl|hq'
   .exact xW hq
   .exact List.lt_trans (xW hq) (Kj h2 q' hq')
def qj (l:List Pu) (p:Pu) (n:Int):List Pu×Bool:=
 if iW l&&decide (1<=n/\n<=1000000000)&&iW (iP l p) then(iP l p,true) else(l,false)
end Mth
set_option maxRecDepth 100000
open Go.RowKit
theorem noNumberAt (i:Int) (w:World):Calls Tryz.prog 242 #[.int .i64 i] w λe w'=>e= .returned (.iface 279 (.agg #[.iface 281 (.agg #[.int .i64 i])]))/\w=w':=by
 go_enter Tryz.func242,Tryz.ntmps242
 go_wp2
 go_ret;exact⟨rfl,rfl⟩
def qz (o:Option (Nat×Nat)) (i:Int):Value:=
 match o with
 |none=> .tuple #[.int .i64 0,.int .i64 0,.iface 279 (.agg #[.iface 281 (.agg #[.int .i64 i])])]
 |some (n,c)=> .tuple #[.int .i64 n,.int .i64 (i+c),.nilIface]
theorem Ur (s:ByteArray) (i:Int) (w:World) (h:i < 0):Calls Tryz.prog 241 #[.string s,.int .i64 i] w λe w'=>e= .returned (qz none i)/\w=w':=by
 go_enter Tryz.func241,Tryz.ntmps241
 go_wp2_with (go_at_call 242;refine(noNumberAt _ _).mono ?_;rintro e w' ⟨rfl,rfl⟩)
 go_ret3
 exact⟨rfl,rfl⟩
def oV (j u:Nat):Prop:=(j=0/\u=1)\/(j=1/\u=128)\/(j=2/\u=16384)\/(j=3/\u=2097152)\/(j=4/\u=268435456)\/(j=5/\u=34359738368)
theorem NI {G:Option (Nat×Nat)} {i a b:Int} {n c:Nat} (hG:G=some (n,c)) (ha:a=n) (hb:b=i+c):Ending.returned (.tuple #[.int .i64 a,.int .i64 b,.nilIface])= .returned (qz G i):=by
 subst hG;subst ha;subst hb;rfl
theorem Zq {G:Option (Nat×Nat)} {i:Int} (hG:G=none):Ending.returned (.tuple #[.int .i64 0,.int .i64 0,.iface 279 (.agg #[.iface 281 (.agg #[.int .i64 i])])])= .returned (qz G i):=by
 subst hG;rfl
theorem Sr {j u:Nat} (h:oV j u):1<=u/\(j < 5->u<=268435456)/\(j < 5->oV (j+1) (u*128))/\(¬j < 5->j=5/\4000000000 < u):=by
 unfold oV at *;rcases h with⟨rfl,rfl⟩|⟨rfl,rfl⟩|⟨rfl,rfl⟩|⟨rfl,rfl⟩|⟨rfl,rfl⟩|⟨rfl,rfl⟩<;>simp
theorem abn (b v:Nat):0<=(b:Int) % 128*(v:Int)/\(b:Int) % 128*(v:Int)<=127*(v:Int):=by
 have h1:0<=(b:Int) % 128:=Aaa
 have h2:(b:Int) % 128<=127:=Aaa
 exact⟨Int.mul_nonneg h1 Aaa,Int.mul_le_mul_of_nonneg_right h2 Aaa⟩
theorem JG (b v:Nat) (hb:¬128<=b):(b:Int) % 128*(v:Int)=((b*v:Nat):Int):=by
 rw [Int.emod_eq_of_lt Aaa Aaa];simp
theorem Np (m b v:Nat) (hb:¬128<=b) (h:(4000000000:Int) < (m:Int)+(b:Int) % 128*(v:Int)):4000000000 < m+b*v:=by
 rw [JG b v hb] at h;generalize b*v=x at *;omega
theorem wO (m b v:Nat) (hb:¬128<=b) (h:¬(4000000000:Int) < (m:Int)+(b:Int) % 128*(v:Int)):m+b*v<=4000000000:=by
 rw [JG b v hb] at h;generalize b*v=x at *;omega
theorem Hz (m b v:Nat) (h:m < v):m+b % 128*v < v*128:=by
 have h1:b % 128<=127:=Aaa
 have h2:=Nat.mul_le_mul_right v h1;omega
theorem Nr (m b v:Nat) (hb:¬128<=b):(m:Int)+(b:Int) % 128*(v:Int)=((m+b*v:Nat):Int):=by
 rw [JG b v hb];generalize b*v=x;omega
theorem Nq (m b v:Nat) (hb:(b:Int)<=0):(m:Int)=((m+b*v:Nat):Int):=by
 have:b=0:=Aaa
 subst this;simp
theorem numAt (s:ByteArray) (i:Nat) (w:World) (hs:s.size<=maxLen):Calls Tryz.prog 241 #[.string s,.int .i64 i] w λe w'=>e= .returned (qz (Mth.get s.data.toList i) i)/\w=w':=by
 unfold maxLen at hs;have h0:decide ((i:Int) < 0)=false:=Aac
 go_enter Tryz.func241,Tryz.ntmps241
 go_wp2
 go_loop [7,8,9] (λn u a=>∃j m v k:Nat,oV j v/\m < v/\n= .int .i64 m/\u= .int .i64 v/\a= .int .i64 k/\k=i+j/\Mth.getF (5 - j) (s.data.toList.drop k) m v j=Mth.get s.data.toList i) (λ_ _ a=>s.size - (intOf a).toNat)
 case atStart=>exact⟨0,0,1,i,.inl ⟨rfl,rfl⟩,Aaa,rfl,rfl,rfl,rfl,rfl⟩
 case round=>
  obtain⟨j,m,v,k,hu,hm,rfl,rfl,rfl,hk,hget⟩:=hrel;have HG:=Hq hget;have HK:=Hq hk;clear hget hk;obtain⟨hv1,hv2,hu2,hv5⟩:=Sr hu;by_cases hlt:k < s.size
  .by_cases hj:j < 5
   .open amy in exact acd
   .obtain⟨rfl,atl⟩:=hv5 hj;have HR:=Hq (Mth.get_full _ _ _ _ HG);clear hv2 hu2 hv5 hu;exact aaL
  .have HR:=Hq (Mth.get_end s k _ m _ _ hlt HG);clear hv2 hu2 hv5 hu;exact aaL
open Go.RowKit Go.Extern.Stop Go.Stop Go.Extern
theorem afL (t:Value) (w:World):
 Calls Tryz.prog 243 #[.nilIface,t] w λe w'=>e= .returned (.bool false)/\w=w':=by
 go_enter Tryz.func243,Tryz.ntmps243
 go_wp2
 go_ret;exact⟨rfl,rfl⟩
namespace As
theorem valueOfPtr (t:Addr) (w:World):(ReflectliteValue.unpack (.iface 283 (.pointer (some t)))).run Tryz.prog w
 = .ok (.agg #[.pointer (some ⟨6,283,none⟩),.pointer (some ⟨w.heap.size,0,none⟩),.int .u64 150]) (w.alloc (.cells #[.pointer (some t)] 283)):=Aab
theorem typePtr (a:Addr) (w:World):(ReflectliteValue.methodAny (ReflectliteValue.valueError "reflectlite.Value.Type" 0) (λt _ _ _=>ReflectliteType.toType t) #[.agg #[.pointer (some ⟨6,283,none⟩),.pointer (some a),.int .u64 150]]).run Tryz.prog w
 = .ok (.iface 317 (.agg #[.pointer (some ⟨6,283,none⟩)])) w:=Aab
theorem methodKind (h:Value) (w:World):(Go.method 467 317 (.agg #[h]) "Kind").run Tryz.prog w= .ok (293,h) w:=Aab
theorem methodElem (h:Value) (w:World):(Go.method 467 317 (.agg #[h]) "Elem").run Tryz.prog w= .ok (310,.agg #[h]) w:=Aab
theorem methodImplements (h:Value) (w:World):(Go.method 467 317 (.agg #[h]) "Implements").run Tryz.prog w= .ok (311,.agg #[h]) w:=Aab
theorem methodAssignableTo (h:Value) (w:World):(Go.method 467 317 (.agg #[h]) "AssignableTo").run Tryz.prog w= .ok (308,.agg #[h]) w:=Aab
theorem methodUnwrap (h:Value) (w:World):(Go.method 467 279 (.agg #[h]) "Unwrap").run Tryz.prog w= .ok (302,.agg #[h]) w:=Aab
theorem kindPtr (w:World):((ReflectliteType.abiMethod λt=>(λa:Nat=>Value.int IntKind.u8 (a:Int)) <$> Rtype.kind t) #[.pointer (some ⟨6,283,none⟩)]).run Tryz.prog w= .ok (.int .u8 22) w:=Aab
theorem kindStruct (w:World):((ReflectliteType.abiMethod λt=>(λa:Nat=>Value.int IntKind.u8 (a:Int)) <$> Rtype.kind t) #[.pointer (some ⟨6,281,none⟩)]).run Tryz.prog w= .ok (.int .u8 25) w:=Aab
theorem rlm (z:Sem Value) (f:TypeId->Addr->Nat->Nat->Sem Value) (v:Value):
 ReflectliteValue.method z f #[v]=(do match<-ReflectliteValue.parts v with|none=>z|some (t,a,fl)=>f t a fl (fl % 32)):=rfl
theorem Ns (a:Addr) (w:World):(ReflectliteValue.parts (.agg #[.pointer (some ⟨6,283,none⟩),.pointer (some a),.int .u64 150])).run Tryz.prog w= .ok (some (283,a,150)) w:=Aab
theorem isNil (a p:Addr) (W:World) (ha:W.cell? a=some (.pointer (some p))):
 (ReflectliteValue.method (ReflectliteValue.valueError "reflectlite.Value.IsNil" 0) ReflectliteValue.isNil #[.agg #[.pointer (some ⟨6,283,none⟩),.pointer (some a),.int .u64 150]]).run Tryz.prog W= .ok (.bool false) W:=by
 rw [rlm];simp only[Sem.run_bind,Ns,Result.andThen];simp[ReflectliteValue.isNil,loadVar,isAgg,underlying,Tryz.underlying283,ha,Result.andThen]
theorem elemType (w:World):(ReflectliteType.method ReflectliteType.elem #[.agg #[.pointer (some ⟨6,283,none⟩)]]).run Tryz.prog w= .ok (.iface 317 (.agg #[.pointer (some ⟨6,281,none⟩)])) w:=Aab
theorem implements (w:World):(ReflectliteType.relation "Implements" ReflectliteType.implements_ #[.agg #[.pointer (some ⟨6,281,none⟩)],.iface 317 (.agg #[.pointer (some ⟨6,248,none⟩)])]).run Tryz.prog w= .ok (.bool true) w:=Aab
theorem typeOfNo (v:Value) (w:World):(ReflectliteType.typeOf #[.iface 281 v]).run Tryz.prog w= .ok (.iface 317 (.agg #[.pointer (some ⟨6,281,none⟩)])) w:=Aab
theorem typeOfUnread (v:Value) (w:World):(ReflectliteType.typeOf #[.iface 279 v]).run Tryz.prog w= .ok (.iface 317 (.agg #[.pointer (some ⟨6,279,none⟩)])) w:=Aab
theorem assignNo (w:World):(ReflectliteType.relation "AssignableTo" ReflectliteType.assignableTo #[.agg #[.pointer (some ⟨6,281,none⟩)],.iface 317 (.agg #[.pointer (some ⟨6,281,none⟩)])]).run Tryz.prog w= .ok (.bool true) w:=Aab
theorem assignUnread (w:World):(ReflectliteType.relation "AssignableTo" ReflectliteType.assignableTo #[.agg #[.pointer (some ⟨6,279,none⟩)],.iface 317 (.agg #[.pointer (some ⟨6,281,none⟩)])]).run Tryz.prog w= .ok (.bool false) w:=Aab
theorem valueOfNo (p:Int) (w:World):(ReflectliteValue.unpack (.iface 281 (.agg #[.int .i64 p]))).run Tryz.prog w
 = .ok (.agg #[.pointer (some ⟨6,281,none⟩),.pointer (some ⟨w.heap.size,0,none⟩),.int .u64 153]) (w.alloc (.cells #[.int .i64 p] 281)):=Aab
theorem elemOf (w:World):(Rtype.elem? 283).run Tryz.prog w= .ok (some 281) w:=Aab
theorem awX (p:Addr) (w:World):(ReflectliteValue.mk 281 p ReflectliteValue.flagAddr).run Tryz.prog w= .ok (.agg #[.pointer (some ⟨6,281,none⟩),.pointer (some p),.int .u64 409]) w:=Aab
theorem elemV (a p:Addr) (W:World) (ha:W.cell? a=some (.pointer (some p))):
 (ReflectliteValue.method (ReflectliteValue.valueError "reflectlite.Value.Elem" 0) ReflectliteValue.elem #[.agg #[.pointer (some ⟨6,283,none⟩),.pointer (some a),.int .u64 150]]).run Tryz.prog W
  = .ok (.agg #[.pointer (some ⟨6,281,none⟩),.pointer (some p),.int .u64 409]) W:=by
 rw [rlm];simp only[Sem.run_bind,Ns,Result.andThen];simp[ReflectliteValue.elem,loadVar,isAgg,underlying,Tryz.underlying283,ha,Result.andThen,elemOf,awX]
theorem Zh (a:Addr) (w:World):(ReflectliteValue.parts (.agg #[.pointer (some ⟨6,281,none⟩),.pointer (some a),.int .u64 409])).run Tryz.prog w= .ok (some (281,a,409)) w:=Aab
theorem abp (a:Addr) (w:World):(ReflectliteValue.parts (.agg #[.pointer (some ⟨6,281,none⟩),.pointer (some a),.int .u64 153])).run Tryz.prog w= .ok (some (281,a,153)) w:=Aab
theorem XI (w:World):(Rtype.directlyAssignable 281 281).run Tryz.prog w= .ok true w:=Aab
end As
namespace As
theorem rls (v x:Value):ReflectliteValue.set #[v,x]=(do
 let(some (dst,a,fl),some (src,b,_)):=(<-ReflectliteValue.parts v,<-ReflectliteValue.parts x)
  |unsupported (.noEntry "extern/(internal/reflectlite.Value).Set.zeroValue")
 if fl / ReflectliteValue.flagAddr % 2 == 0 then unsupported (.noEntry "extern/(internal/reflectlite.Value).Set.unaddressable")
 let val<-loadVar src b
 if<-Rtype.directlyAssignable dst src then storeVar dst a val
 else if<-Rtype.implements dst src then
  if (<-Rtype.kind src) == 20 then
   match val with
   | .nilIface=>unsupported (.noEntry "extern/reflectlite: a nil value of one interface type handed on as a value of another")
   |_=>storeVar dst a val
  else storeVar dst a (.iface src val)
 else panicString ("reflectlite.Set: value of type " ++(<-Rtype.spelt src)++ " is not assignable to type " ++(<-Rtype.spelt dst))
 pure (.tuple #[])):=rfl
theorem setNo (ta b:Addr) (p:Int) (old:Value) (W:World) (hb:W.cell? b=some (.int .i64 p)) (ht:W.cell? ta=some old) (hf:W.frozen? ta=false):
 (ReflectliteValue.set #[.agg #[.pointer (some ⟨6,281,none⟩),.pointer (some ta),.int .u64 409],.agg #[.pointer (some ⟨6,281,none⟩),.pointer (some b),.int .u64 153]]).run Tryz.prog W
  = .ok (.tuple #[]) (W.setCell ta (.int .i64 p)):=by
 rw [rls];simp only[Sem.run_bind,Zh,abp,Result.andThen]
 have hl:(loadCells b 1).run Tryz.prog W= .ok #[.int .i64 p] W:=run_loadCells_list W b [.int .i64 p] (λj v hj=>by
  match j,hj with
  |0,hj=>simp at hj;subst hj;simpa [Addr.add] using hb)
 simp[ReflectliteValue.flagAddr,loadVar,isAgg,underlying,Tryz.underlying281,hl,Result.andThen,XI,storeVar,Value.cells,storeCells,Addr.add];rw [run_store Tryz.prog W ta _ _ Aad];simp[ht,hf]
end As
end Go.Proofs.YtacgbldlonoaaaaGreatDoor
