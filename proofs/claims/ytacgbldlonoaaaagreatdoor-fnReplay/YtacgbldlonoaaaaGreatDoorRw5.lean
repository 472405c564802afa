/- Parts. -/
import Derived.Test.YtacgbldlonoaaaaGreatDoorRw1
namespace Go.Proofs.YtacgbldlonoaaaaGreatDoor
open Go.Proofs.Tryz
namespace GR
open Go.RowKit
section
variable {α:Type} (enc:α->List Value) (sz:Nat)
def flat (l:List α):List Value:=l.flatMap enc
theorem flat_nil:flat enc []=[]:=rfl
theorem flat_cons (x:α) (r:List α):flat enc (x::r)=enc x++flat enc r:=rfl
theorem flat_append (l r:List α):flat enc (l++r)=flat enc l++flat enc r:=by simp[flat]
theorem flat_one (x:α):flat enc [x]=enc x:=by simp[flat]
theorem flat_length (h:∀x,(enc x).length=sz) (l:List α):(flat enc l).length=l.length*sz:=by
 induction l with
 |nil=>simp[flat]
 |cons x r ih=>rw [flat_cons,List.length_append,ih,h,List.length_cons,Nat.add_mul,Nat.one_mul,Nat.add_comm]
theorem flat_at (h:∀x,(enc x).length=sz):∀(l:List α) (i:Nat) (hi:i < l.length) (j:Nat),j < sz->(flat enc l)[i*sz+j]?=(enc l[i])[j]?:=by
 intro l;induction l with
 |nil=>intro i hi;simp at hi
 |cons x r ih=>
  intro i hi j hj
  rw [flat_cons]
  cases i with
  |zero=>
   rw [Nat.zero_mul,Nat.zero_add,List.getElem?_append_left (by rw [h];exact hj)]
   rfl
  |succ i=>
   have e:(i+1)*sz+j=sz+(i*sz+j):=by rw [Nat.add_mul,Nat.one_mul];omega
   rw [List.getElem?_append_right (by rw [h];omega),h,e,Nat.add_sub_cancel_left,ih i Aaq j hj]
   rfl
def setRun (xs:List Value) (o:Nat):List Value->List Value
 |[]=>xs
 |v::vs=>setRun (xs.set o v) (o+1) vs
theorem setRun_append_right (a:List Value):∀(vs:List Value) (o:Nat) (b:List Value),setRun (a++b) (a.length+o) vs=a++setRun b o vs:=by
 intro vs;induction vs with
 |nil=>intro o b;rfl
 |cons v vs ih=>
  intro o b
  show setRun ((a++b).set (a.length+o) v) (a.length+o+1) vs=a++setRun (b.set o v) (o+1) vs
  rw [List.set_append_right _ _ Aaa,Nat.add_sub_cancel_left,Nat.add_assoc,ih]
theorem setRun_head:∀(vs a b:List Value),vs.length=a.length->setRun (a++b) 0 vs=vs++b:=by
 intro vs;induction vs with
 |nil=>intro a b h;have:a=[]:=List.eq_nil_of_length_eq_zero (by simpa using h.symm);subst this;rfl
 |cons v vs ih=>
  intro a b h
  cases a with
  |nil=>simp at h
  |cons y a=>
   show setRun (((y::a)++b).set 0 v) (0+1) vs=v::vs++b
   have e:((y::a)++b).set 0 v=[v]++(a++b):=rfl
   rw [e,Nat.zero_add]
   have h2:=setRun_append_right [v] vs 0 (a++b)
   simp only[List.length_singleton,Nat.add_zero] at h2
   rw [h2,ih a b Abg]
   rfl
theorem flat_set (h:∀x,(enc x).length=sz):∀(l:List α) (i:Nat) (x:α),i < l.length->setRun (flat enc l) (i*sz) (enc x)=flat enc (l.set i x):=by
 intro l;induction l with
 |nil=>intro i x hi;simp at hi
 |cons y r ih=>
  intro i x hi
  cases i with
  |zero=>
   rw [Nat.zero_mul,flat_cons,setRun_head _ _ _ (by rw [h,h])]
   rfl
  |succ i=>
   have e:(i+1)*sz=(enc y).length+i*sz:=by rw [h,Nat.add_mul,Nat.one_mul,Nat.add_comm]
   rw [flat_cons,e,setRun_append_right _,ih i x Aaq]
   rfl
def At (w:World) (a:Option Addr) (l:List α):Prop:=∀i (hi:i < l.length),∃g off,a=some ⟨g,off,none⟩/\g < w.heap.size/\∀j,j < sz->w.cell? ⟨g,off+(i*sz+j),none⟩=(enc l[i])[j]?
theorem At.below {enc:α->List Value} {sz:Nat} {w w':World} {a:Option Addr} {l:List α} (h:At enc sz w a l) (hb:aY w w'):At enc sz w' a l:=λi hi=>by
 obtain⟨g,off,e,hg,hc⟩:=h i hi;exact⟨g,off,e,Nat.lt_of_lt_of_le hg hb.size,λj hj=>(hb.cell (p:=⟨g,off+(i*sz+j),none⟩) hg).trans (hc j hj)⟩
theorem at_nil {w:World} {a:Option Addr}:At enc sz w a []:=λi hi=>by simp at hi
def Blk (t:TypeId) (w:World) (g:Nat) (l:List α):Prop:=w.heap[g]?=some (.cells (flat enc l).toArray t (0,0))
theorem Blk.cell {enc:α->List Value} {sz:Nat} {t:TypeId} {w:World} {g:Nat} {l:List α} (h:Blk enc t w g l) (hs:∀x,(enc x).length=sz) (i:Nat) (hi:i < l.length) (j:Nat) (hj:j < sz):w.cell? ⟨g,i*sz+j,none⟩=(enc l[i])[j]?:=by
 rw [cell_of_row w g _ _ t (0,0) h];simpa using flat_at enc sz hs l i hi j hj
theorem Blk.free {enc:α->List Value} {t:TypeId} {w:World} {g:Nat} {l:List α} (h:Blk enc t w g l) (i:Nat):w.frozen? ⟨g,i,none⟩=false:=by
 unfold World.frozen?;rw [h];simp
theorem Blk.lt {enc:α->List Value} {t:TypeId} {w:World} {g:Nat} {l:List α} (h:Blk enc t w g l):g < w.heap.size:=by
 rcases Nat.lt_or_ge g w.heap.size with h'|h'
 .exact h'
 .rw [Blk,Array.getElem?_eq_none h'] at h;cases h
theorem Blk.at {enc:α->List Value} {sz:Nat} {t:TypeId} {w:World} {g:Nat} {l:List α} (h:Blk enc t w g l) (hs:∀x,(enc x).length=sz):At enc sz w (some ⟨g,0,none⟩) l:=λi hi=>
 ⟨g,0,rfl,h.lt,λj hj=>by rw [Nat.zero_add];exact h.cell hs i hi j hj⟩
def setW (w:World) (g o:Nat):List Value->World
 |[]=>w
 |v::vs=>setW (w.setCell ⟨g,o,none⟩ v) g (o+1) vs
theorem setW_blk:∀(vs:List Value) {w:World} {g o:Nat} {xs:List Value} {t:TypeId},w.heap[g]?=some (.cells xs.toArray t (0,0))->(setW w g o vs).heap[g]?=some (.cells (setRun xs o vs).toArray t (0,0)):=by
 intro vs;induction vs with
 |nil=>intro w g o xs t h;exact h
 |cons v vs ih=>
  intro w g o xs t h
  refine ih (xs:=xs.set o v) ?_
  unfold World.setCell
  simp only[Array.getElem?_modify]
  rw [if_pos trivial,h]
  simp
theorem Blk.set {enc:α->List Value} {sz:Nat} {t:TypeId} {w:World} {g:Nat} {l:List α} (h:Blk enc t w g l) (hs:∀x,(enc x).length=sz) (i:Nat) (hi:i < l.length) (x:α):Blk enc t (setW w g (i*sz) (enc x)) g (l.set i x):=by
 have h2:=setW_blk (enc x) (o:=i*sz) h;rw [flat_set enc sz hs l i x hi] at h2;exact h2
theorem setW_below {B:Nat} {a:World} {g:Nat} (hg:B<=g):∀(vs:List Value) {w:World} {o:Nat},Below B a w->Below B a (setW w g o vs):=by
 intro vs;induction vs with
 |nil=>intro w o h;exact h
 |cons v vs ih=>intro w o h;exact ih (h.setCell (p:=⟨g,o,none⟩) hg v)
theorem setW_other {g g':Nat} (hne:g'≠g):∀(vs:List Value) {w:World} {o:Nat},(setW w g o vs).heap[g']?=w.heap[g']?:=by
 intro vs;induction vs with
 |nil=>intro w o;rfl
 |cons v vs ih=>intro w o;exact(ih (w:=w.setCell ⟨g,o,none⟩ v)).trans (Below.heap_setCell _ _ _ _ hne)
theorem made_flat (h:∀x,(enc x).length=sz) (hz:0 < sz) (x:α) (z:Array Value) (he:z.toList=enc x) (n:Nat):madeCells z (n*sz)=(flat enc (List.replicate n x)).toArray:=by
 have hzs:z.size=sz:=by rw [<-Array.length_toList,he,h]
 apply Array.ext_getElem?
 intro k;by_cases hk:k < n*sz
 .have hq:k / sz < n:=Nat.div_lt_of_lt_mul (by rw [Nat.mul_comm];exact hk);have hr:k % sz < sz:=Nat.mod_lt _ hz;have hf:=flat_at enc sz h (List.replicate n x) (k / sz) (by simpa using hq) (k % sz) hr;have ek:k / sz*sz+k % sz=k:=Nat.div_add_mod' k sz;rw [ek] at hf;have h1:(madeCells z (n*sz))[k]?=some (z[k % z.size]!):=by simp[madeCells,hk]
  rw [h1,hzs]
  have h2:(flat enc (List.replicate n x)).toArray[k]?=(enc x)[k % sz]?:=by
   rw [List.getElem?_toArray,hf];simp
  rw [h2,<-he];have h3:k % sz < z.size:=Aaa
  rw [getElem!_pos z (k % sz) h3,Array.getElem?_toList,Array.getElem?_eq_getElem h3]
 .have h1:(madeCells z (n*sz)).size<=k:=by simp[madeCells];omega
  have h2:(flat enc (List.replicate n x)).toArray.size<=k:=by
   rw [List.size_toArray,flat_length enc sz h];simp;omega
  rw [Array.getElem?_eq_none h1,Array.getElem?_eq_none h2]
theorem own_at {enc:α->List Value} {sz:Nat} {w:World} {base:Nat} {e:TypeId} {v:Value} {l:List α} (hs:∀x,(enc x).length=sz) (h:w.ownsRow base e sz v l.length (flat enc l)):∃a cap,v= .slice a l.length cap/\At enc sz w a l:=by
 rcases h.2 with⟨rfl,hn⟩|⟨g,cap,cur,rfl,hg,hblk,_⟩
 .exact⟨none,0,by rw [hn],λi hi=>Aaa⟩
 .refine⟨_,cap,rfl,λi hi=>⟨g,0,rfl,?_,λj hj=>?_⟩⟩
  .rcases Nat.lt_or_ge g w.heap.size with h'|h'
   .exact h'
   .rw [Array.getElem?_eq_none h'] at hblk;cases hblk
  .have hf:=flat_at enc sz hs l i hi j hj;have hj':j < (enc l[i]).length:=by rw [hs];exact hj
   rw [List.getElem?_eq_getElem hj'] at hf ⊢;have:=h.cells rfl (i*sz+j) _ hf;have ea:(⟨g,0,none⟩:Addr).add (i*sz+j)=⟨g,0+(i*sz+j),none⟩:=by unfold Addr.add;split<;>simp_all
   rw [ea] at this;exact this
end
end GR
namespace Mth
structure Pu where
 k:ByteArray
 m:Int
 f:Int
 s:Int
instance:Inhabited Pu:=⟨⟨ByteArray.empty,0,0,0⟩⟩
abbrev fH (p:Pu):List Value:=[.string p.k,.int .i64 p.m,.int .i64 p.f,.int .i64 p.s]
abbrev Al (p:Pu):Value:= .agg #[.string p.k,.int .i64 p.m,.int .i64 p.f,.int .i64 p.s]
theorem aX (p:Pu):(fH p).length=4:=rfl
def sle (a b:ByteArray):Bool:=Op.bytesLess a.toList b.toList||a.toList == b.toList
def ru (n:Int):Bool:=decide (0<=n/\n<=1000000000)
def gX (p:Pu):Bool:=keyOk p.k.data.toList&&ru p.m&&ru p.f&&ru p.s&&ru (p.f+p.s)
def kW (l:List Pu) (i:Nat):Bool:=gX (l.getD i default)&&(i == 0|| !sle (l.getD i default).k (l.getD (i - 1) default).k)
def jo (l:List Pu):Bool:=(List.range l.length).all (kW l)&&decide (l.length<=20)
theorem mX (f:Nat->Bool) (k:Nat):(List.range (k+1)).all f=((List.range k).all f&&f k):=by
 rw [List.range_succ,List.all_append];simp
theorem iR {l:List Pu} {i:Nat} (hi:i < l.length) (h:kW l i=false):jo l=false:=by
 unfold jo
 have:(List.range l.length).all (kW l)=false:=by
  rw [List.all_eq_false];exact⟨i,List.mem_range.2 hi,Abu⟩
 rw [this];rfl
theorem XU {l:List Pu} (h:(List.range l.length).all (kW l)=true):jo l=decide (l.length<=20):=by unfold jo;rw [h];rfl
def aG (l:List Pu) (k:ByteArray):Pu:=(l.find? λp=>p.k.toList == k.toList).getD ⟨k,0,0,0⟩
theorem JM (f:Pu->Bool) (l:List Pu) (i:Nat) (hi:i < l.length) (h:(l.take i).find? f=none):(f l[i]=true->l.find? f=some l[i])/\(f l[i]=false->(l.take (i+1)).find? f=none):=by
 exact axw
theorem getD_at (l:List Pu) (i:Nat) (hi:i < l.length):l.getD i default=l[i]:=by rw [List.getD_eq_getElem?_getD,List.getElem?_eq_getElem hi];rfl
end Mth
abbrev iM (k:ByteArray) (m f s:Int):Array Value:=#[.string k,.int .i64 m,.int .i64 f,.int .i64 s]
abbrev fI (i t:Int) (k:ByteArray) (n:Int):Array Value:=#[.int .i64 i,.int .i64 t,.string k,.int .i64 n]
abbrev eG (i:Int) (k:ByteArray) (n s:Int):Array Value:=#[.int .i64 i,.string k,.int .i64 n,.int .i64 s]
namespace Mth
abbrev Mf (a b:Pu):Prop:=a.k.toList < b.k.toList
theorem qM (a b:ByteArray):Op.bytesLess a.toList b.toList=true↔a.toList < b.toList:=by
 rw [bytesLess_eq,decide_eq_true_iff]
theorem oH (a b:ByteArray):sle a b=false↔b.toList < a.toList:=by
 unfold sle;rw [bytesLess_eq,Bool.or_eq_false_iff,decide_eq_false_iff_not,beq_eq_false_iff_ne];constructor
 .rintro⟨h1,h2⟩;rcases List.le_iff_lt_or_eq.1 (List.not_lt.1 h1) with h|h
  .exact h
  .exact absurd h.symm h2
 .intro h;exact⟨List.lt_asymm h,λe=>by rw [e] at h;exact List.lt_irrefl _ h⟩
theorem Cq {R:Pu->Pu->Prop} (tr:∀a b c,R a b->R b c->R a c):∀(l:List Pu),(∀i (h:i+1 < l.length),R l[i] l[i+1])->l.Pairwise R:=by
 intro l;induction l with
 |nil=>intro _;exact List.Pairwise.nil
 |cons x r ih=>
  intro h
  have hr:r.Pairwise R:=ih λi hi=>h (i+1) Aaq
  refine List.Pairwise.cons ?_ hr
  intro y hy
  cases r with
  |nil=>simp at hy
  |cons z s=>
   have hxz:R x z:=h 0 Aac
   rcases List.mem_cons.1 hy with rfl|hy
   .exact hxz
   .exact tr _ _ _ hxz ((List.pairwise_cons.1 hr).1 y hy)
theorem kJ (l:List Pu):jo l=true↔(∀p∈l,gX p=true)/\l.Pairwise Mf/\l.length<=20:=by
 unfold jo;rw [Bool.and_eq_true,List.all_eq_true,decide_eq_true_iff];constructor
 .rintro⟨h,h20⟩;refine⟨?_,?_,h20⟩
  .intro p hp;obtain⟨i,hi,rfl⟩:=List.mem_iff_getElem.1 hp;have h1:=h i (List.mem_range.2 hi);unfold kW at h1;rw [Bool.and_eq_true] at h1;simpa [List.getD,hi] using h1.1
  .refine Cq (λa b c (h1:Mf a b) (h2:Mf b c)=>(List.lt_trans h1 h2:Mf a c)) l λi hi=>?_
   have h1:=h (i+1) (List.mem_range.2 hi);unfold kW at h1;rw [Bool.and_eq_true] at h1;have h2:=h1.2;have hi0:i < l.length:=Aaa
   simp[List.getD,hi,hi0] at h2;exact(oH _ _).1 h2
 .rintro⟨h,hp,h20⟩;refine⟨?_,h20⟩;intro i hi;have hi':=List.mem_range.1 hi;unfold kW;rw [Bool.and_eq_true];refine⟨by simpa [List.getD,hi'] using h l[i] (List.getElem_mem hi'),?_⟩;cases i with
  |zero=>rfl
  |succ i=>
   have hi0:i < l.length:=Aaa
   have h2:=(oH l[i+1].k l[i].k).2 (List.pairwise_iff_getElem.1 hp i (i+1) hi0 hi' Aaa)
   simp[List.getD,hi',hi0,h2]
def sU (l:List Pu) (k:ByteArray):List Pu:=l.takeWhile λq=>Op.bytesLess q.k.toList k.toList
def lK (l:List Pu) (k:ByteArray):List Pu:=l.dropWhile λq=>Op.bytesLess q.k.toList k.toList
def lu (l:List Pu) (k:ByteArray):List Pu:=match lK l k with
 |[]=>[]
 |q::r=>if q.k.toList == k.toList then r else q::r
def jq (l:List Pu) (p:Pu):List Pu:=sU l p.k++p::lu l p.k
theorem wQ (l:List Pu) (k:ByteArray):sU l k++lK l k=l:=List.takeWhile_append_dropWhile
theorem Jl (f:Pu->Bool):∀(l:List Pu) (q:Pu),q∈l.takeWhile f->f q=true:=by
 intro l;induction l with
 |nil=>intro q hq;simp at hq
 |cons x r ih=>
  intro q hq
  rw [List.takeWhile_cons] at hq
  split at hq
  .rename_i hx
   rcases List.mem_cons.1 hq with rfl|hq
   .exact hx
   .exact ih q hq
  .simp at hq
theorem zL {l:List Pu} {k:ByteArray} {q:Pu} (h:q∈sU l k):q.k.toList < k.toList:=(qM _ _).1 (Jl _ l q h)
theorem Gu (l:List Pu) (k:ByteArray):∀q∈lu l k,q∈lK l k:=by
 intro q hq;unfold lu at hq;split at hq
 .simp at hq
 .rename_i x r e
  rw [e];split at hq
  .exact List.mem_cons_of_mem _ hq
  .exact hq
theorem BX (l:List Pu) (k:ByteArray) (q:Pu) (r:List Pu) (h:lK l k=q::r):¬q.k.toList < k.toList:=by
 unfold lK at h;have h2:=List.head?_dropWhile_not (λq:Pu=>Op.bytesLess q.k.toList k.toList) l;rw [h] at h2;simp at h2;intro h3;rw [(qM _ _).2 h3] at h2;cases h2
theorem Nl {l:List Pu} {k:ByteArray} (hp:l.Pairwise Mf):∀q∈lu l k,k.toList < q.k.toList:=by
 have hp2:(lK l k).Pairwise Mf:=hp.sublist (List.dropWhile_sublist _);unfold lu;cases hf:lK l k with
 |nil=>intro q hq;simp at hq
 |cons x r=>
  have hx:=BX l k x r hf
  rw [hf] at hp2
  have hr:=(List.pairwise_cons.1 hp2).1
  dsimp only
  by_cases he:x.k.toList=k.toList
  .rw [if_pos (by simpa using he)];intro q hq;have:=hr q hq;unfold Mf at this;rw [he] at this;exact this
  .rw [if_neg (by simpa using he)]
   have hkx:k.toList < x.k.toList:=by
    rcases List.le_iff_lt_or_eq.1 (List.not_lt.1 hx) with h|h
    .exact h
    .exact absurd h.symm he
   intro q hq;rcases List.mem_cons.1 hq with rfl|hq
   .exact hkx
   .exact List.lt_trans hkx (hr q hq)
theorem Jk {l:List Pu} {k:ByteArray} (hp:l.Pairwise Mf):(lu l k).Pairwise Mf:=by
 have hp2:(lK l k).Pairwise Mf:=hp.sublist (List.dropWhile_sublist _);unfold lu;cases hf:lK l k with
 |nil=>exact List.Pairwise.nil
 |cons x r=>
  rw [hf] at hp2
  dsimp only
  split
  .exact(List.pairwise_cons.1 hp2).2
  .exact hp2
theorem acE {l:List Pu} (p:Pu) (h:jo l=true):jo (jq l p)=(gX p&&decide ((jq l p).length<=20)):=by
 obtain⟨h1,h2,h3⟩:=(kJ l).1 h;apply Bool.eq_iff_iff.2
 rw [kJ,Bool.and_eq_true,decide_eq_true_iff];constructor
 .rintro⟨g1,_,g3⟩;exact⟨g1 p (by unfold jq;simp),g3⟩
 .rintro⟨g1,g3⟩;refine⟨?_,?_,g3⟩
  .intro q hq;unfold jq at hq;rcases List.mem_append.1 hq with hq|hq
   .exact h1 q ((List.takeWhile_sublist _).mem hq)
   .rcases List.mem_cons.1 hq with rfl|hq
    .exact g1
    .exact h1 q ((List.dropWhile_sublist _).mem (Gu l p.k q hq))
  .unfold jq;rw [List.pairwise_append];refine⟨h2.sublist (List.takeWhile_sublist _),List.pairwise_cons.2 ⟨λq hq=>Nl h2 q hq,Jk h2⟩,?_⟩;intro q hq q' hq';rcases List.mem_cons.1 hq' with rfl|hq'
   .exact zL hq
   .exact List.lt_trans (zL hq) (Nl h2 q' hq')
def rP (l:List Pu) (p:Pu) (n:Int):List Pu×Bool:=
 if jo l&&decide (1<=n/\n<=1000000000)&&jo (jq l p) then(jq l p,true) else(l,false)
end Mth
end Go.Proofs.YtacgbldlonoaaaaGreatDoor
namespace Go.Proofs
open Go.Shelf YtacgbldlonoaaaaGreatDoor
def Tryz.sortL_ren:Go.Shelf.Ren:=⟨fun|5=>123|8=>175|7=>174|19=>210|20=>211|10=>201|11=>202|12=>203|13=>204|14=>205|15=>206|16=>207|17=>208|18=>209|30=>235|31=>236|32=>237|33=>238|34=>239|35=>240|40=>254|n=>n,fun|23=>24|25=>3|3=>3|32=>203|22=>24|0=>0|44=>168|46=>243|4=>4|36=>235|35=>234|41=>195|5=>5|9=>9|53=>270|57=>274|63=>290|64=>209|n=>n,fun|n=>n⟩
theorem Tryz.sortL:Go.Proofs.SlLaysM.n5 Tryz.prog Tryz.sortL_ren:={
 mixed:=Aab
 f5:=⟨Tryz.f123.name,Aae,Tryz.func123.trans (congrArg some Aab)⟩
 f7:=⟨Tryz.f174.name,Aae,Tryz.func174.trans (congrArg some Aab)⟩
 f8:=Tryz.func175.trans (congrArg some Aab)
 f10:=⟨Tryz.f201.name,Aae,Tryz.func201.trans (congrArg some Aab)⟩
 f11:=⟨Tryz.f202.name,Aae,Tryz.func202.trans (congrArg some Aab)⟩
 f12:=⟨Tryz.f203.name,Aae,Tryz.func203.trans (congrArg some Aab)⟩
 f13:=⟨Tryz.f204.name,Aae,Tryz.func204.trans (congrArg some Aab)⟩
 f14:=⟨Tryz.f205.name,Aae,Tryz.func205.trans (congrArg some Aab)⟩
 f15:=⟨Tryz.f206.name,Aae,Tryz.func206.trans (congrArg some Aab)⟩
 f16:=⟨Tryz.f207.name,Aae,Tryz.func207.trans (congrArg some Aab)⟩
 f17:=⟨Tryz.f208.name,Aae,Tryz.func208.trans (congrArg some Aab)⟩
 f18:=⟨Tryz.f209.name,Aae,Tryz.func209.trans (congrArg some Aab)⟩
 f19:=Tryz.func210.trans (congrArg some Aab)
 f20:=Tryz.func211.trans (congrArg some Aab)
 f30:=⟨Tryz.f235.name,Aae,Tryz.func235.trans (congrArg some Aab)⟩
 f31:=Tryz.func236.trans (congrArg some Aab)
 f32:=Tryz.func237.trans (congrArg some Aab)
 f33:=⟨Tryz.f238.name,Aae,Tryz.func238.trans (congrArg some Aab)⟩
 f34:=⟨Tryz.f239.name,Aae,Tryz.func239.trans (congrArg some Aab)⟩
 f35:=⟨Tryz.f240.name,Aae,Tryz.func240.trans (congrArg some Aab)⟩
 f40:=⟨Tryz.f254.name,Aae,Tryz.func254.trans (congrArg some Aab)⟩
 t0:=Tryz.underlying0
 a0:=Tryz.isAgg0
 z0:=Tryz.sizeOf0
 v0:=Tryz.zeroValue0
 t3:=Tryz.underlying3
 a3:=Tryz.isAgg3
 z3:=Tryz.sizeOf3
 v3:=Tryz.zeroValue3
 t4:=Tryz.underlying4
 a4:=Tryz.isAgg4
 z4:=Tryz.sizeOf4
 v4:=Tryz.zeroValue4
 t5:=Tryz.underlying5
 a5:=Tryz.isAgg5
 z5:=Tryz.sizeOf5
 v5:=Tryz.zeroValue5
 t9:=Tryz.underlying9
 a9:=Tryz.isAgg9
 z9:=Tryz.sizeOf9
 v9:=Tryz.zeroValue9
 t22:=Tryz.underlying24
 a22:=Tryz.isAgg24
 z22:=Tryz.sizeOf24
 v22:=Tryz.zeroValue24
 t23:=Tryz.underlying24
 a23:=Tryz.isAgg24
 z23:=Tryz.sizeOf24
 v23:=Tryz.zeroValue24
 t25:=Tryz.underlying3
 a25:=Tryz.isAgg3
 z25:=Tryz.sizeOf3
 v25:=Tryz.zeroValue3
 t32:=Tryz.underlying203
 a32:=Tryz.isAgg203
 z32:=Tryz.sizeOf203
 v32:=Tryz.zeroValue203
 t35:=Tryz.underlying234
 a35:=Tryz.isAgg234
 z35:=Tryz.sizeOf234
 v35:=Tryz.zeroValue234
 t36:=Tryz.underlying235
 a36:=Tryz.isAgg235
 z36:=Tryz.sizeOf235
 v36:=Tryz.zeroValue235
 t41:=Tryz.underlying195
 a41:=Tryz.isAgg195
 z41:=Tryz.sizeOf195
 v41:=Tryz.zeroValue195
 t44:=Tryz.underlying168
 a44:=Tryz.isAgg168
 z44:=Tryz.sizeOf168
 v44:=Tryz.zeroValue168
 t46:=Tryz.underlying243
 a46:=Tryz.isAgg243
 z46:=Tryz.sizeOf243
 v46:=Tryz.zeroValue243
 t53:=Tryz.underlying270
 a53:=Tryz.isAgg270
 z53:=Tryz.sizeOf270
 v53:=Tryz.zeroValue270
 t57:=Tryz.underlying274
 a57:=Tryz.isAgg274
 z57:=Tryz.sizeOf274
 v57:=Tryz.zeroValue274
 t63:=Tryz.underlying290
 a63:=Tryz.isAgg290
 z63:=Tryz.sizeOf290
 v63:=Tryz.zeroValue290
 t64:=Tryz.underlying209
 a64:=Tryz.isAgg209
 z64:=Tryz.sizeOf209
 v64:=Tryz.zeroValue209}
end Go.Proofs
namespace Go.Proofs.YtacgbldlonoaaaaGreatDoor
open Go.Proofs.Tryz
open Go.Shelf Go.Proofs
def vH:Go.Shelf.Ren:=⟨fun|17=>278|22=>271|29=>274|30=>275|36=>277|26=>270|33=>272|34=>273|38=>276|n=>n,fun|0=>0|3=>3|4=>4|9=>9|24=>50|40=>203|n=>n,λn=>n⟩
theorem uK:Lays2.n22 prog vH:={
 mixed:=Aab
 f17:=func278.trans (congrArg some Aab)
 f22:=func271.trans (congrArg some Aab)
 f29:=func274.trans (congrArg some Aab)
 f30:=func275.trans (congrArg some Aab)
 f36:=func277.trans (congrArg some Aab)
 t0:=underlying0
 a0:=isAgg0
 z0:=sizeOf0
 v0:=zeroValue0
 t3:=underlying3
 a3:=isAgg3
 z3:=sizeOf3
 v3:=zeroValue3
 t4:=underlying4
 a4:=isAgg4
 z4:=sizeOf4
 v4:=zeroValue4
 t9:=underlying9
 a9:=isAgg9
 z9:=sizeOf9
 v9:=zeroValue9
 t24:=underlying50
 a24:=isAgg50
 z24:=sizeOf50
 v24:=zeroValue50
 i9:=by kernel_rfl}
theorem FU:Lays2.n26 prog vH:={
 mixed:=Aab
 f26:=func270.trans (congrArg some Aab)
 f33:=func272.trans (congrArg some Aab)
 f34:=func273.trans (congrArg some Aab)
 f38:=func276.trans (congrArg some Aab)
 t0:=underlying0
 a0:=isAgg0
 z0:=sizeOf0
 v0:=zeroValue0
 t3:=underlying3
 a3:=isAgg3
 z3:=sizeOf3
 v3:=zeroValue3
 t4:=underlying4
 a4:=isAgg4
 z4:=sizeOf4
 v4:=zeroValue4
 t9:=underlying9
 a9:=isAgg9
 z9:=sizeOf9
 v9:=zeroValue9
 t24:=underlying50
 a24:=isAgg50
 z24:=sizeOf50
 v24:=zeroValue50
 t40:=underlying203
 a40:=isAgg203
 z40:=sizeOf203
 v40:=zeroValue203}
open Go
theorem AX {H:Type} {enc:TypeId×Value->H} {P:Program} {w:World} {sp:Nat->Bool}:∀{ns:List String} {gs:List (DataW H)} {ps:List MemPlace},DataW.TrodVars enc P w sp ns gs ps->gs.length=ns.length
 |[],[],_,_=>rfl
 |[],_::_,_,h=>h.elim
 |_::_,[],_,h=>h.elim
 |_::ns,_::ds,_,h=>by
  obtain⟨_,_,_,_,_,_,_,_,_,_,hs,_⟩:=h
  have:=AX hs
  simp[this]
theorem Uq {α:Type} {gs:List α} (h:gs.length=5):∃a b c d e,gs=[a,b,c,d,e]:=by
 match gs,h with
 |[a,b,c,d,e],_=>exact⟨a,b,c,d,e,rfl⟩
end Go.Proofs.YtacgbldlonoaaaaGreatDoor
