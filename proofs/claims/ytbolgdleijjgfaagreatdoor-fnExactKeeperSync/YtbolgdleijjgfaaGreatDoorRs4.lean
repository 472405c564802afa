/- Parts. -/
import Derived.Test.YtbolgdleijjgfaaGreatDoorRs1
namespace Go.Proofs.YtbolgdleijjgfaaGreatDoor
open Go.Proofs.Tryz
namespace GR
open Go.RowKit
section
variable {α:Type} (enc:α->List Value) (sz:Nat)
def flat (l:List α):List Value:=l.flatMap enc
theorem flat_cons (x:α) (r:List α):flat enc (x::r)=enc x++flat enc r:=rfl
theorem flat_append (l r:List α):flat enc (l++r)=flat enc l++flat enc r:=by simp[flat]
theorem flat_one (x:α):flat enc [x]=enc x:=by simp[flat]
theorem flat_length (h:∀x,(enc x).length=sz) (l:List α):(flat enc l).length=l.length*sz:=by
 induction l with
 |nil=>simp[flat]
 |cons x r ih=>rw [flat_cons,aER,ih,h,aF9,aGx,Nat.one_mul,Nat.add_comm]
theorem flat_at (h:∀x,(enc x).length=sz):∀(l:List α) (i:Nat) (hi:i < l.length) (j:Nat),j < sz->(flat enc l)[i*sz+j]?=(enc l[i])[j]?:=by
 intro l;induction l with
 |nil=>intro i hi;simp at hi
 |cons x r ih=>
  intro i hi j hj;rw [flat_cons];cases i with
  |zero=>
   rw [Nat.zero_mul,aFz,aF8 (by rw [h];exact hj)];rfl
  |succ i=>
   have e:(i+1)*sz+j=sz+(i*sz+j):=by rw [aGx,Nat.one_mul];omega
   rw [List.getElem?_append_right (by rw [h];omega),h,e,Nat.add_sub_cancel_left,ih i Aas j hj];rfl
def setRun (xs:List Value) (o:Nat):List Value->List Value
 |[]=>xs
 |v::vs=>setRun (xs.set o v) (o+1) vs
theorem setRun_append_right (a:List Value):∀(vs:List Value) (o:Nat) (b:List Value),setRun (a++b) (a.length+o) vs=a++setRun b o vs:=by
 intro vs;induction vs with
 |nil=>intro o b;rfl
 |cons v vs ih=>
  intro o b;show setRun ((a++b).set (a.length+o) v) (a.length+o+1) vs=a++setRun (b.set o v) (o+1) vs
  rw [aGb _ _ Aaa,Nat.add_sub_cancel_left,aFp,ih]
theorem setRun_head:∀(vs a b:List Value),vs.length=a.length->setRun (a++b) 0 vs=vs++b:=by
 intro vs;induction vs with
 |nil=>intro a b h;have:a=[]:=aFg (by simpa using h.symm);subst this;rfl
 |cons v vs ih=>
  intro a b h;cases a with
  |nil=>simp at h
  |cons y a=>
   show setRun (((y::a)++b).set 0 v) (0+1) vs=v::vs++b
   have e:((y::a)++b).set 0 v=[v]++(a++b):=rfl;rw [e,aFz];have h2:=setRun_append_right [v] vs 0 (a++b);simp only[List.length_singleton,aGw] at h2;rw [h2,ih a b Abm];rfl
theorem flat_set (h:∀x,(enc x).length=sz):∀(l:List α) (i:Nat) (x:α),i < l.length->setRun (flat enc l) (i*sz) (enc x)=flat enc (l.set i x):=by
 intro l;induction l with
 |nil=>intro i x hi;simp at hi
 |cons y r ih=>
  intro i x hi;cases i with
  |zero=>
   rw [Nat.zero_mul,flat_cons,setRun_head _ _ _ (by rw [h,h])];rfl
  |succ i=>
   have e:(i+1)*sz=(enc y).length+i*sz:=by rw [h,aGx,Nat.one_mul,Nat.add_comm]
   rw [flat_cons,e,setRun_append_right _,ih i x Aas];rfl
def At (w:World) (a:Option Addr) (l:List α):Prop:=∀i (hi:i < l.length),∃g off,a=some ⟨g,off,none⟩/\g < w.heap.size/\∀j,j < sz->w.cell? ⟨g,off+(i*sz+j),none⟩=(enc l[i])[j]?
theorem At.below {enc:α->List Value} {sz:Nat} {w w':World} {a:Option Addr} {l:List α} (h:At enc sz w a l) (hb:aH w w'):At enc sz w' a l:=λi hi=>by
 obtain⟨g,off,e,hg,hc⟩:=h i hi;exact⟨g,off,e,aEU hg hb.size,λj hj=>(hb.cell (p:=⟨g,off+(i*sz+j),none⟩) hg).trans (hc j hj)⟩
theorem at_nil {w:World} {a:Option Addr}:At enc sz w a []:=λi hi=>by simp at hi
def Blk (t:TypeId) (w:World) (g:Nat) (l:List α):Prop:=w.heap[g]?=some (.cells (flat enc l).toArray t (0,0))
theorem Blk.cell {enc:α->List Value} {sz:Nat} {t:TypeId} {w:World} {g:Nat} {l:List α} (h:Blk enc t w g l) (hs:∀x,(enc x).length=sz) (i:Nat) (hi:i < l.length) (j:Nat) (hj:j < sz):w.cell? ⟨g,i*sz+j,none⟩=(enc l[i])[j]?:=by
 rw [aEW w g _ _ t (0,0) h];simpa using flat_at enc sz hs l i hi j hj
theorem Blk.free {enc:α->List Value} {t:TypeId} {w:World} {g:Nat} {l:List α} (h:Blk enc t w g l) (i:Nat):w.frozen? ⟨g,i,none⟩=false:=by
 unfold World.frozen?;rw [h];simp
theorem Blk.lt {enc:α->List Value} {t:TypeId} {w:World} {g:Nat} {l:List α} (h:Blk enc t w g l):g < w.heap.size:=by
 grind [Blk]
theorem Blk.at {enc:α->List Value} {sz:Nat} {t:TypeId} {w:World} {g:Nat} {l:List α} (h:Blk enc t w g l) (hs:∀x,(enc x).length=sz):At enc sz w (some ⟨g,0,none⟩) l:=λi hi=>
 ⟨g,0,rfl,h.lt,λj hj=>by rw [aFz];exact h.cell hs i hi j hj⟩
def setW (w:World) (g o:Nat):List Value->World
 |[]=>w
 |v::vs=>setW (w.setCell ⟨g,o,none⟩ v) g (o+1) vs
theorem setW_blk:∀(vs:List Value) {w:World} {g o:Nat} {xs:List Value} {t:TypeId},w.heap[g]?=some (.cells xs.toArray t (0,0))->(setW w g o vs).heap[g]?=some (.cells (setRun xs o vs).toArray t (0,0)):=by
 intro vs;induction vs with
 |nil=>intro w g o xs t h;exact h
 |cons v vs ih=>
  intro w g o xs t h;refine ih (xs:=xs.set o v) ?_;unfold World.setCell;simp only[Array.getElem?_modify];rw [aE7 trivial,h];simp
theorem Blk.set {enc:α->List Value} {sz:Nat} {t:TypeId} {w:World} {g:Nat} {l:List α} (h:Blk enc t w g l) (hs:∀x,(enc x).length=sz) (i:Nat) (hi:i < l.length) (x:α):Blk enc t (setW w g (i*sz) (enc x)) g (l.set i x):=by
 have h2:=setW_blk (enc x) (o:=i*sz) h;rw [flat_set enc sz hs l i x hi] at h2;exact h2
theorem setW_below {B:Nat} {a:World} {g:Nat} (hg:B<=g):∀(vs:List Value) {w:World} {o:Nat},Below B a w->Below B a (setW w g o vs):=by
 intro vs;induction vs with
 |nil=>intro w o h;exact h
 |cons v vs ih=>intro w o h;exact ih (h.setCell (p:=⟨g,o,none⟩) hg v)
theorem setW_other {g g':Nat} (hne:g'≠g):∀(vs:List Value) {w:World} {o:Nat},(setW w g o vs).heap[g']?=w.heap[g']?:=by
 intro vs;induction vs with
 |nil=>intro w o;rfl
 |cons v vs ih=>intro w o;exact(ih (w:=w.setCell ⟨g,o,none⟩ v)).trans (aE9 _ _ _ _ hne)
theorem made_flat (h:∀x,(enc x).length=sz) (hz:0 < sz) (x:α) (z:Array Value) (he:z.toList=enc x) (n:Nat):madeCells z (n*sz)=(flat enc (List.replicate n x)).toArray:=by
 have hzs:z.size=sz:=by rw [<-aFu,he,h]
 apply Array.ext_getElem?
 intro k;by_cases hk:k < n*sz
 .have hq:k / sz < n:=Nat.div_lt_of_lt_mul (by rw [aGF];exact hk);have hr:k % sz < sz:=Nat.mod_lt _ hz;have hf:=flat_at enc sz h (List.replicate n x) (k / sz) Abh (k % sz) hr;have ek:k / sz*sz+k % sz=k:=Nat.div_add_mod' k sz;rw [ek] at hf;have h1:(madeCells z (n*sz))[k]?=some (z[k % z.size]!):=by simp[madeCells,hk]
  grind
 .have h1:(madeCells z (n*sz)).size<=k:=by simp[madeCells];omega
  have h2:(flat enc (List.replicate n x)).toArray.size<=k:=by
   rw [aFH,flat_length enc sz h];simp;omega
  grind
theorem own_at {enc:α->List Value} {sz:Nat} {w:World} {base:Nat} {e:TypeId} {v:Value} {l:List α} (hs:∀x,(enc x).length=sz) (h:w.ownsRow base e sz v l.length (flat enc l)):∃a cap,v= .slice a l.length cap/\At enc sz w a l:=by
 rcases h.2 with⟨rfl,hn⟩|⟨g,cap,cur,rfl,hg,hblk,_⟩
 .exact⟨none,0,by rw [hn],λi hi=>Aaa⟩
 .refine⟨_,cap,rfl,λi hi=>⟨g,0,rfl,?_,λj hj=>?_⟩⟩
  .grind
  .have hf:=flat_at enc sz hs l i hi j hj;have hj':j < (enc l[i]).length:=by rw [hs];exact hj
   rw [aEQ hj'] at hf ⊢;have:=h.cells rfl (i*sz+j) _ hf;have ea:(⟨g,0,none⟩:Addr).add (i*sz+j)=⟨g,0+(i*sz+j),none⟩:=by unfold Addr.add;split<;>simp_all
   rw [ea] at this;exact this
end
end GR
namespace Mth
structure Pu where
 k:ByteArray
 m:Int
 f:Int
 s:Int
instance:Inhabited Pu:=⟨⟨ByteArray.empty,0,0,0⟩⟩
abbrev fu (p:Pu):List Value:=[.string p.k,.int .i64 p.m,.int .i64 p.f,.int .i64 p.s]
abbrev yc (p:Pu):Value:= .agg #[.string p.k,.int .i64 p.m,.int .i64 p.f,.int .i64 p.s]
theorem aP (p:Pu):(fu p).length=4:=rfl
def sle (a b:ByteArray):Bool:=Op.bytesLess a.toList b.toList||a.toList == b.toList
def rA (n:Int):Bool:=decide (0<=n/\n<=1000000000)
def iB (p:Pu):Bool:=keyOk p.k.data.toList&&rA p.m&&rA p.f&&rA p.s&&rA (p.f+p.s)
def og (l:List Pu) (i:Nat):Bool:=iB (l.getD i default)&&(i == 0|| !sle (l.getD i default).k (l.getD (i - 1) default).k)
def jm (l:List Pu):Bool:=(List.range l.length).all (og l)&&decide (l.length<=20)
theorem qA (f:Nat->Bool) (k:Nat):(List.range (k+1)).all f=((List.range k).all f&&f k):=by
 rw [aGQ,List.all_append];simp
theorem oh {l:List Pu} {i:Nat} (hi:i < l.length) (h:og l i=false):jm l=false:=by
 grind [og,jm]
theorem Za {l:List Pu} (h:(List.range l.length).all (og l)=true):jm l=decide (l.length<=20):=by unfold jm;rw [h];rfl
def aD (l:List Pu) (k:ByteArray):Pu:=(l.find? λp=>p.k.toList == k.toList).getD ⟨k,0,0,0⟩
theorem JY (f:Pu->Bool) (l:List Pu) (i:Nat) (hi:i < l.length) (h:(l.take i).find? f=none):(f l[i]=true->l.find? f=some l[i])/\(f l[i]=false->(l.take (i+1)).find? f=none):=by
 exact axY
theorem getD_at (l:List Pu) (i:Nat) (hi:i < l.length):l.getD i default=l[i]:=by rw [aFl,aEQ hi];rfl
end Mth
abbrev iR (k:ByteArray) (m f s:Int):Array Value:=#[.string k,.int .i64 m,.int .i64 f,.int .i64 s]
abbrev gI (i t:Int) (k:ByteArray) (n:Int):Array Value:=#[.int .i64 i,.int .i64 t,.string k,.int .i64 n]
abbrev gT (i:Int) (k:ByteArray) (n s:Int):Array Value:=#[.int .i64 i,.string k,.int .i64 n,.int .i64 s]
namespace Mth
abbrev Og (a b:Pu):Prop:=a.k.toList < b.k.toList
theorem qD (a b:ByteArray):Op.bytesLess a.toList b.toList=true↔a.toList < b.toList:=by
 rw [bytesLess_eq,aFo]
theorem nS (a b:ByteArray):sle a b=false↔b.toList < a.toList:=by
 unfold sle;rw [bytesLess_eq,Bool.or_eq_false_iff,aGM,aGm];grind
theorem Cv {R:Pu->Pu->Prop} (tr:∀a b c,R a b->R b c->R a c):∀(l:List Pu),(∀i (h:i+1 < l.length),R l[i] l[i+1])->l.Pairwise R:=by
 intro l;induction l with
 |nil=>intro _;exact List.Pairwise.nil
 |cons x r ih=>
  intro h;have hr:r.Pairwise R:=ih λi hi=>h (i+1) Aas
  refine List.Pairwise.cons ?_ hr;intro y hy;cases r with
  |nil=>simp at hy
  |cons z s=>
   have hxz:R x z:=h 0 Aac;rcases aE8.1 hy with rfl|hy
   .exact hxz
   .exact tr _ _ _ hxz ((aFM.1 hr).1 y hy)
theorem jW (l:List Pu):jm l=true↔(∀p∈l,iB p=true)/\l.Pairwise Og/\l.length<=20:=by
 unfold jm;rw [aES,aGz,aFo];constructor
 .rintro⟨h,h20⟩;refine⟨?_,?_,h20⟩
  .intro p hp;obtain⟨i,hi,rfl⟩:=aFY.1 hp;have h1:=h i (aFP.2 hi);grind [og]
  .refine Cv (λa b c (h1:Og a b) (h2:Og b c)=>(List.lt_trans h1 h2:Og a c)) l λi hi=>?_
   have h1:=h (i+1) (aFP.2 hi);grind [og,nS]
 .rintro⟨h,hp,h20⟩;refine⟨?_,h20⟩;intro i hi;have hi':=aFP.1 hi;unfold og;rw [aES];grind [nS,List.getD,List.getElem_mem,List.pairwise_iff_getElem]
def wI (l:List Pu) (k:ByteArray):List Pu:=l.takeWhile λq=>Op.bytesLess q.k.toList k.toList
def lM (l:List Pu) (k:ByteArray):List Pu:=l.dropWhile λq=>Op.bytesLess q.k.toList k.toList
def kV (l:List Pu) (k:ByteArray):List Pu:=match lM l k with
 |[]=>[]
 |q::r=>if q.k.toList == k.toList then r else q::r
def iY (l:List Pu) (p:Pu):List Pu:=wI l p.k++p::kV l p.k
theorem xD (l:List Pu) (k:ByteArray):wI l k++lM l k=l:=aGu
theorem JC (f:Pu->Bool):∀(l:List Pu) (q:Pu),q∈l.takeWhile f->f q=true:=by
 intro l;induction l with
 |nil=>intro q hq;simp at hq
 |cons x r ih=>
  intro q hq;rw [List.takeWhile_cons] at hq;split at hq
  .rename_i hx
   rcases aE8.1 hq with rfl|hq
   .exact hx
   .exact ih q hq
  .simp at hq
theorem Ak {l:List Pu} {k:ByteArray} {q:Pu} (h:q∈wI l k):q.k.toList < k.toList:=(qD _ _).1 (JC _ l q h)
theorem He (l:List Pu) (k:ByteArray):∀q∈kV l k,q∈lM l k:=by
 intro q hq;unfold kV at hq;split at hq
 .simp at hq
 .rename_i x r e
  rw [e];split at hq
  .exact aGP _ hq
  .exact hq
theorem Ce (l:List Pu) (k:ByteArray) (q:Pu) (r:List Pu) (h:lM l k=q::r):¬q.k.toList < k.toList:=by
 grind [lM,qD,List.head?_dropWhile_not]
theorem NC {l:List Pu} {k:ByteArray} (hp:l.Pairwise Og):∀q∈kV l k,k.toList < q.k.toList:=by
 have hp2:(lM l k).Pairwise Og:=hp.sublist (aF6 _);unfold kV;cases hf:lM l k with
 |nil=>intro q hq;simp at hq
 |cons x r=>
  have hx:=Ce l k x r hf;rw [hf] at hp2;have hr:=(aFM.1 hp2).1;dsimp only;by_cases he:x.k.toList=k.toList
  .grind
  .grind
theorem JB {l:List Pu} {k:ByteArray} (hp:l.Pairwise Og):(kV l k).Pairwise Og:=by
 have hp2:(lM l k).Pairwise Og:=hp.sublist (aF6 _);grind [lM,kV]
theorem adg {l:List Pu} (p:Pu) (h:jm l=true):jm (iY l p)=(iB p&&decide ((iY l p).length<=20)):=by
 obtain⟨h1,h2,h3⟩:=(jW l).1 h;apply aF2.2
 rw [jW,aES,aFo];constructor
 .grind [iY]
 .rintro⟨g1,g3⟩;refine⟨?_,?_,g3⟩
  .intro q hq;unfold iY at hq;rcases aE6.1 hq with hq|hq
   .exact h1 q ((aGg _).mem hq)
   .rcases aE8.1 hq with rfl|hq
    .exact g1
    .exact h1 q ((aF6 _).mem (He l p.k q hq))
  .unfold iY;rw [List.pairwise_append];refine⟨h2.sublist (aGg _),aFM.2 ⟨λq hq=>NC h2 q hq,JB h2⟩,?_⟩;intro q hq q' hq';rcases aE8.1 hq' with rfl|hq'
   .exact Ak hq
   .exact List.lt_trans (Ak hq) (NC h2 q' hq')
def rR (l:List Pu) (p:Pu) (n:Int):List Pu×Bool:=
 if jm l&&decide (1<=n/\n<=1000000000)&&jm (iY l p) then(iY l p,true) else(l,false)
end Mth
end Go.Proofs.YtbolgdleijjgfaaGreatDoor
namespace Go.Proofs.YtbolgdleijjgfaaGreatDoor.Mth
open Go.Proofs.Tryz
open Go.Lib (decDigits itoa)
theorem digits_small (v:Nat) (h:v < 10):decDigits v=[UInt8.ofNat (48+v)]:=by rw [decDigits,dif_pos h]
theorem digits_big (v:Nat) (h:¬v < 10):decDigits v=decDigits (v / 10)++[UInt8.ofNat (48+v % 10)]:=by rw [decDigits,dif_neg h]
end Go.Proofs.YtbolgdleijjgfaaGreatDoor.Mth
namespace Go.Proofs.YtbolgdleijjgfaaGreatDoor
open Go.Proofs.Tryz
open Go.Shelf Go.Proofs
def vN:Go.Shelf.Ren:=⟨fun|17=>319|22=>312|29=>315|30=>316|36=>318|26=>311|33=>313|34=>314|38=>317|n=>n,fun|0=>0|3=>3|4=>4|9=>9|24=>354|40=>204|n=>n,λn=>n⟩
theorem uT:Lays2.n22 prog vN:={
 mixed:=Aab
 f17:=func319.trans (congrArg some Aab)
 f22:=func312.trans (congrArg some Aab)
 f29:=func315.trans (congrArg some Aab)
 f30:=func316.trans (congrArg some Aab)
 f36:=func318.trans (congrArg some Aab)
 t0:=underlying0
 a0:=isAgg0
 z0:=sizeOf0
 v0:=zeroValue0
 t3:=underlying3
 a3:=isAgg3
 z3:=sizeOf3
 v3:=zeroValue3
 t4:=underlying4
 a4:=isAgg4
 z4:=sizeOf4
 v4:=zeroValue4
 t9:=underlying9
 a9:=isAgg9
 z9:=sizeOf9
 v9:=zeroValue9
 t24:=underlying354
 a24:=isAgg354
 z24:=sizeOf354
 v24:=zeroValue354
 i9:=by kernel_rfl}
theorem FZ:Lays2.n26 prog vN:={
 mixed:=Aab
 f26:=func311.trans (congrArg some Aab)
 f33:=func313.trans (congrArg some Aab)
 f34:=func314.trans (congrArg some Aab)
 f38:=func317.trans (congrArg some Aab)
 t0:=underlying0
 a0:=isAgg0
 z0:=sizeOf0
 v0:=zeroValue0
 t3:=underlying3
 a3:=isAgg3
 z3:=sizeOf3
 v3:=zeroValue3
 t4:=underlying4
 a4:=isAgg4
 z4:=sizeOf4
 v4:=zeroValue4
 t9:=underlying9
 a9:=isAgg9
 z9:=sizeOf9
 v9:=zeroValue9
 t24:=underlying354
 a24:=isAgg354
 z24:=sizeOf354
 v24:=zeroValue354
 t40:=underlying204
 a40:=isAgg204
 z40:=sizeOf204
 v40:=zeroValue204}
set_option maxHeartbeats 400000
set_option maxRecDepth 100000
open Go.RowKit
theorem Mh (s:ByteArray) (w:World) (hs:s.size<=maxLen):
 Calls prog 231 #[.string s] w λe w'=>e= .returned (.int .u32 (65536*(Mth.sums s.data.toList).2+(Mth.sums s.data.toList).1))/\w=w':=by
 unfold maxLen at hs;go_in
 go_wp2
 go_loop [3,4,8] (λa b i=>∃k:Nat,k<=s.size/\i= .int .i64 k/\a= .int .u32 (Mth.sums (s.data.toList.take k)).1/\b= .int .u32 (Mth.sums (s.data.toList.take k)).2) (λ_ _ i=>s.size - (intOf i).toNat)
 case atStart=>exact⟨0,aE1 _,rfl,rfl,rfl⟩
 case round=>
  exact axK
theorem Nl (s:ByteArray) (w:World) (hs:s.size<=maxLen):
 Calls prog 97 #[.string s] w λe w'=>e= .returned (.int .u32 (65536*(Mth.sums s.data.toList).2+(Mth.sums s.data.toList).1))/\w=w':=by
 unfold maxLen at hs;go_in
 go_wp2
 go_loop [3,4,5] (λa b i=>∃k:Nat,k<=s.size/\i= .int .i64 k/\a= .int .i64 (Mth.sums (s.data.toList.take k)).1/\b= .int .i64 (Mth.sums (s.data.toList.take k)).2) (λ_ _ i=>s.size - (intOf i).toNat)
 case atStart=>exact⟨0,aE1 _,rfl,rfl,rfl⟩
 case round=>
  exact axK
section
variable {P:Program} {ops:Array Oper} {Q:Exit->Act->World->Prop} {md:Region.Mode}
theorem um {i:Nat} {oi:Oper} {K:Act->World->Prop} {a:Act} {x:World} (hi:ops[i]?=some oi) (hw:Region.wanted oi (yielded ops a.tmps)=true) (h:oi.wp P a x K Q):wpOp P ops Q i K a x:=by
 unfold wpOp;simp only[hi];rw [aE7 hw];exact .inl h
theorem tJ {j:Nat} {o:Oper} {L:Array Bool} (h1:L.getD j true=false) (ho:ops[j]?=some o) (h2:(o.after.all λe=> !Region.binds md e||L.getD e.on false)=true):Region.ready md ops L≠[]:=by
 have h:j∈Region.ready md ops L:=mem_ready.2 ⟨h1,o,ho,λe he hb=>by
  have h3:=Array.all_eq_true_iff_forall_mem.1 h2 e he
  simpa [hb] using h3⟩
 intro hn;rw [hn] at h;cases h
end
end Go.Proofs.YtbolgdleijjgfaaGreatDoor
