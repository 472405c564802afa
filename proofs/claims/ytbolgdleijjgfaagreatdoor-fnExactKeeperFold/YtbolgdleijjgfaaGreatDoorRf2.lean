/- Parts. -/
import Derived.Test.YtbolgdleijjgfaaGreatDoorRf1
namespace Go.Proofs.YtbolgdleijjgfaaGreatDoor
open Go.Proofs.Tryz
namespace GR
open Go.RowKit
section
variable {α:Type} (enc:α->List Value) (sz:Nat)
def flat (l:List α):List Value:=l.flatMap enc
theorem flat_cons (x:α) (r:List α):flat enc (x::r)=enc x++flat enc r:=rfl
theorem flat_append (l r:List α):flat enc (l++r)=flat enc l++flat enc r:=by simp[flat]
theorem flat_one (x:α):flat enc [x]=enc x:=by simp[flat]
theorem flat_length (h:∀x,(enc x).length=sz) (l:List α):(flat enc l).length=l.length*sz:=by
 induction l with
 |nil=>simp[flat]
 |cons x r ih=>rw [flat_cons,aEW,ih,h,aGe,aGC,Nat.one_mul,Nat.add_comm]
theorem flat_at (h:∀x,(enc x).length=sz):∀(l:List α) (i:Nat) (hi:i < l.length) (j:Nat),j < sz->(flat enc l)[i*sz+j]?=(enc l[i])[j]?:=by
 intro l;induction l with
 |nil=>intro i hi;simp at hi
 |cons x r ih=>
  intro i hi j hj;rw [flat_cons];cases i with
  |zero=>
   rw [Nat.zero_mul,aFE,aGd (by rw [h];exact hj)];rfl
  |succ i=>
   have e:(i+1)*sz+j=sz+(i*sz+j):=by rw [aGC,Nat.one_mul];omega
   rw [List.getElem?_append_right (by rw [h];omega),h,e,Nat.add_sub_cancel_left,ih i Aat j hj];rfl
def setRun (xs:List Value) (o:Nat):List Value->List Value
 |[]=>xs
 |v::vs=>setRun (xs.set o v) (o+1) vs
theorem setRun_append_right (a:List Value):∀(vs:List Value) (o:Nat) (b:List Value),setRun (a++b) (a.length+o) vs=a++setRun b o vs:=by
 intro vs;induction vs with
 |nil=>intro o b;rfl
 |cons v vs ih=>
  intro o b;show setRun ((a++b).set (a.length+o) v) (a.length+o+1) vs=a++setRun (b.set o v) (o+1) vs
  rw [aGg _ _ Aaa,Nat.add_sub_cancel_left,aFv,ih]
theorem setRun_head:∀(vs a b:List Value),vs.length=a.length->setRun (a++b) 0 vs=vs++b:=by
 intro vs;induction vs with
 |nil=>intro a b h;have:a=[]:=aFk (by simpa using h.symm);subst this;rfl
 |cons v vs ih=>
  intro a b h;cases a with
  |nil=>simp at h
  |cons y a=>
   show setRun (((y::a)++b).set 0 v) (0+1) vs=v::vs++b
   have e:((y::a)++b).set 0 v=[v]++(a++b):=rfl;rw [e,aFE];have h2:=setRun_append_right [v] vs 0 (a++b);simp only[List.length_singleton,aGB] at h2;rw [h2,ih a b Abm];rfl
theorem flat_set (h:∀x,(enc x).length=sz):∀(l:List α) (i:Nat) (x:α),i < l.length->setRun (flat enc l) (i*sz) (enc x)=flat enc (l.set i x):=by
 intro l;induction l with
 |nil=>intro i x hi;simp at hi
 |cons y r ih=>
  intro i x hi;cases i with
  |zero=>
   rw [Nat.zero_mul,flat_cons,setRun_head _ _ _ (by rw [h,h])];rfl
  |succ i=>
   have e:(i+1)*sz=(enc y).length+i*sz:=by rw [h,aGC,Nat.one_mul,Nat.add_comm]
   rw [flat_cons,e,setRun_append_right _,ih i x Aat];rfl
def At (w:World) (a:Option Addr) (l:List α):Prop:=∀i (hi:i < l.length),∃g off,a=some ⟨g,off,none⟩/\g < w.heap.size/\∀j,j < sz->w.cell? ⟨g,off+(i*sz+j),none⟩=(enc l[i])[j]?
theorem At.below {enc:α->List Value} {sz:Nat} {w w':World} {a:Option Addr} {l:List α} (h:At enc sz w a l) (hb:aH w w'):At enc sz w' a l:=λi hi=>by
 obtain⟨g,off,e,hg,hc⟩:=h i hi;exact⟨g,off,e,aEZ hg hb.size,λj hj=>(hb.cell (p:=⟨g,off+(i*sz+j),none⟩) hg).trans (hc j hj)⟩
theorem at_nil {w:World} {a:Option Addr}:At enc sz w a []:=λi hi=>by simp at hi
def Blk (t:TypeId) (w:World) (g:Nat) (l:List α):Prop:=w.heap[g]?=some (.cells (flat enc l).toArray t (0,0))
theorem Blk.cell {enc:α->List Value} {sz:Nat} {t:TypeId} {w:World} {g:Nat} {l:List α} (h:Blk enc t w g l) (hs:∀x,(enc x).length=sz) (i:Nat) (hi:i < l.length) (j:Nat) (hj:j < sz):w.cell? ⟨g,i*sz+j,none⟩=(enc l[i])[j]?:=by
 rw [aE1 w g _ _ t (0,0) h];simpa using flat_at enc sz hs l i hi j hj
theorem Blk.free {enc:α->List Value} {t:TypeId} {w:World} {g:Nat} {l:List α} (h:Blk enc t w g l) (i:Nat):w.frozen? ⟨g,i,none⟩=false:=by
 unfold World.frozen?;rw [h];simp
theorem Blk.lt {enc:α->List Value} {t:TypeId} {w:World} {g:Nat} {l:List α} (h:Blk enc t w g l):g < w.heap.size:=by
 grind [Blk]
theorem Blk.at {enc:α->List Value} {sz:Nat} {t:TypeId} {w:World} {g:Nat} {l:List α} (h:Blk enc t w g l) (hs:∀x,(enc x).length=sz):At enc sz w (some ⟨g,0,none⟩) l:=λi hi=>
 ⟨g,0,rfl,h.lt,λj hj=>by rw [aFE];exact h.cell hs i hi j hj⟩
def setW (w:World) (g o:Nat):List Value->World
 |[]=>w
 |v::vs=>setW (w.setCell ⟨g,o,none⟩ v) g (o+1) vs
theorem setW_blk:∀(vs:List Value) {w:World} {g o:Nat} {xs:List Value} {t:TypeId},w.heap[g]?=some (.cells xs.toArray t (0,0))->(setW w g o vs).heap[g]?=some (.cells (setRun xs o vs).toArray t (0,0)):=by
 intro vs;induction vs with
 |nil=>intro w g o xs t h;exact h
 |cons v vs ih=>
  intro w g o xs t h;refine ih (xs:=xs.set o v) ?_;unfold World.setCell;simp only[Array.getElem?_modify];rw [aFc trivial,h];simp
theorem Blk.set {enc:α->List Value} {sz:Nat} {t:TypeId} {w:World} {g:Nat} {l:List α} (h:Blk enc t w g l) (hs:∀x,(enc x).length=sz) (i:Nat) (hi:i < l.length) (x:α):Blk enc t (setW w g (i*sz) (enc x)) g (l.set i x):=by
 have h2:=setW_blk (enc x) (o:=i*sz) h;rw [flat_set enc sz hs l i x hi] at h2;exact h2
theorem setW_below {B:Nat} {a:World} {g:Nat} (hg:B<=g):∀(vs:List Value) {w:World} {o:Nat},Below B a w->Below B a (setW w g o vs):=by
 intro vs;induction vs with
 |nil=>intro w o h;exact h
 |cons v vs ih=>intro w o h;exact ih (h.setCell (p:=⟨g,o,none⟩) hg v)
theorem setW_other {g g':Nat} (hne:g'≠g):∀(vs:List Value) {w:World} {o:Nat},(setW w g o vs).heap[g']?=w.heap[g']?:=by
 intro vs;induction vs with
 |nil=>intro w o;rfl
 |cons v vs ih=>intro w o;exact(ih (w:=w.setCell ⟨g,o,none⟩ v)).trans (aFe _ _ _ _ hne)
theorem made_flat (h:∀x,(enc x).length=sz) (hz:0 < sz) (x:α) (z:Array Value) (he:z.toList=enc x) (n:Nat):madeCells z (n*sz)=(flat enc (List.replicate n x)).toArray:=by
 have hzs:z.size=sz:=by rw [<-aFB,he,h]
 apply Array.ext_getElem?
 intro k;by_cases hk:k < n*sz
 .have hq:k / sz < n:=Nat.div_lt_of_lt_mul (by rw [aGL];exact hk);have hr:k % sz < sz:=Nat.mod_lt _ hz;have hf:=flat_at enc sz h (List.replicate n x) (k / sz) Abh (k % sz) hr;have ek:k / sz*sz+k % sz=k:=Nat.div_add_mod' k sz;rw [ek] at hf;have h1:(madeCells z (n*sz))[k]?=some (z[k % z.size]!):=by simp[madeCells,hk]
  grind
 .have h1:(madeCells z (n*sz)).size<=k:=by simp[madeCells];omega
  have h2:(flat enc (List.replicate n x)).toArray.size<=k:=by
   rw [aFM,flat_length enc sz h];simp;omega
  grind
theorem own_at {enc:α->List Value} {sz:Nat} {w:World} {base:Nat} {e:TypeId} {v:Value} {l:List α} (hs:∀x,(enc x).length=sz) (h:w.ownsRow base e sz v l.length (flat enc l)):∃a cap,v= .slice a l.length cap/\At enc sz w a l:=by
 rcases h.2 with⟨rfl,hn⟩|⟨g,cap,cur,rfl,hg,hblk,_⟩
 .exact⟨none,0,by rw [hn],λi hi=>Aaa⟩
 .refine⟨_,cap,rfl,λi hi=>⟨g,0,rfl,?_,λj hj=>?_⟩⟩
  .grind
  .have hf:=flat_at enc sz hs l i hi j hj;have hj':j < (enc l[i]).length:=by rw [hs];exact hj
   rw [aEV hj'] at hf ⊢;have:=h.cells rfl (i*sz+j) _ hf;have ea:(⟨g,0,none⟩:Addr).add (i*sz+j)=⟨g,0+(i*sz+j),none⟩:=by unfold Addr.add;split<;>simp_all
   rw [ea] at this;exact this
end
end GR
namespace Mth
structure Pu where
 k:ByteArray
 m:Int
 f:Int
 s:Int
instance:Inhabited Pu:=⟨⟨ByteArray.empty,0,0,0⟩⟩
abbrev fA (p:Pu):List Value:=[.string p.k,.int .i64 p.m,.int .i64 p.f,.int .i64 p.s]
abbrev yx (p:Pu):Value:= .agg #[.string p.k,.int .i64 p.m,.int .i64 p.f,.int .i64 p.s]
theorem aQ (p:Pu):(fA p).length=4:=rfl
def sle (a b:ByteArray):Bool:=Op.bytesLess a.toList b.toList||a.toList == b.toList
def rM (n:Int):Bool:=decide (0<=n/\n<=1000000000)
def iG (p:Pu):Bool:=keyOk p.k.data.toList&&rM p.m&&rM p.f&&rM p.s&&rM (p.f+p.s)
def oL (l:List Pu) (i:Nat):Bool:=iG (l.getD i default)&&(i == 0|| !sle (l.getD i default).k (l.getD (i - 1) default).k)
def jv (l:List Pu):Bool:=(List.range l.length).all (oL l)&&decide (l.length<=20)
theorem qO (f:Nat->Bool) (k:Nat):(List.range (k+1)).all f=((List.range k).all f&&f k):=by
 rw [aGV,List.all_append];simp
theorem oN {l:List Pu} {i:Nat} (hi:i < l.length) (h:oL l i=false):jv l=false:=by
 grind [oL,jv]
theorem Zd {l:List Pu} (h:(List.range l.length).all (oL l)=true):jv l=decide (l.length<=20):=by unfold jv;rw [h];rfl
def aD (l:List Pu) (k:ByteArray):Pu:=(l.find? λp=>p.k.toList == k.toList).getD ⟨k,0,0,0⟩
theorem J8 (f:Pu->Bool) (l:List Pu) (i:Nat) (hi:i < l.length) (h:(l.take i).find? f=none):(f l[i]=true->l.find? f=some l[i])/\(f l[i]=false->(l.take (i+1)).find? f=none):=by
 exact ax6
theorem getD_at (l:List Pu) (i:Nat) (hi:i < l.length):l.getD i default=l[i]:=by rw [aFs,aEV hi];rfl
end Mth
abbrev iX (k:ByteArray) (m f s:Int):Array Value:=#[.string k,.int .i64 m,.int .i64 f,.int .i64 s]
abbrev gN (i t:Int) (k:ByteArray) (n:Int):Array Value:=#[.int .i64 i,.int .i64 t,.string k,.int .i64 n]
abbrev gY (i:Int) (k:ByteArray) (n s:Int):Array Value:=#[.int .i64 i,.string k,.int .i64 n,.int .i64 s]
namespace Mth
abbrev Oj (a b:Pu):Prop:=a.k.toList < b.k.toList
theorem qR (a b:ByteArray):Op.bytesLess a.toList b.toList=true↔a.toList < b.toList:=by
 rw [bytesLess_eq,aFu]
theorem oh (a b:ByteArray):sle a b=false↔b.toList < a.toList:=by
 unfold sle;rw [bytesLess_eq,Bool.or_eq_false_iff,aGS,aGs];grind
theorem CJ {R:Pu->Pu->Prop} (tr:∀a b c,R a b->R b c->R a c):∀(l:List Pu),(∀i (h:i+1 < l.length),R l[i] l[i+1])->l.Pairwise R:=by
 intro l;induction l with
 |nil=>intro _;exact List.Pairwise.nil
 |cons x r ih=>
  intro h;have hr:r.Pairwise R:=ih λi hi=>h (i+1) Aat
  refine List.Pairwise.cons ?_ hr;intro y hy;cases r with
  |nil=>simp at hy
  |cons z s=>
   have hxz:R x z:=h 0 Aac;rcases aFd.1 hy with rfl|hy
   .exact hxz
   .exact tr _ _ _ hxz ((aFR.1 hr).1 y hy)
theorem kH (l:List Pu):jv l=true↔(∀p∈l,iG p=true)/\l.Pairwise Oj/\l.length<=20:=by
 unfold jv;rw [aEX,aGF,aFu];constructor
 .rintro⟨h,h20⟩;refine⟨?_,?_,h20⟩
  .intro p hp;obtain⟨i,hi,rfl⟩:=aF3.1 hp;have h1:=h i (aFU.2 hi);grind [oL]
  .refine CJ (λa b c (h1:Oj a b) (h2:Oj b c)=>(List.lt_trans h1 h2:Oj a c)) l λi hi=>?_
   have h1:=h (i+1) (aFU.2 hi);grind [oL,oh]
 .rintro⟨h,hp,h20⟩;refine⟨?_,h20⟩;intro i hi;have hi':=aFU.1 hi;unfold oL;rw [aEX];grind [oh,List.getD,List.getElem_mem,List.pairwise_iff_getElem]
def wP (l:List Pu) (k:ByteArray):List Pu:=l.takeWhile λq=>Op.bytesLess q.k.toList k.toList
def lX (l:List Pu) (k:ByteArray):List Pu:=l.dropWhile λq=>Op.bytesLess q.k.toList k.toList
def lG (l:List Pu) (k:ByteArray):List Pu:=match lX l k with
 |[]=>[]
 |q::r=>if q.k.toList == k.toList then r else q::r
def jf (l:List Pu) (p:Pu):List Pu:=wP l p.k++p::lG l p.k
theorem xJ (l:List Pu) (k:ByteArray):wP l k++lX l k=l:=aGz
theorem JJ (f:Pu->Bool):∀(l:List Pu) (q:Pu),q∈l.takeWhile f->f q=true:=by
 intro l;induction l with
 |nil=>intro q hq;simp at hq
 |cons x r ih=>
  intro q hq;rw [List.takeWhile_cons] at hq;split at hq
  .rename_i hx
   rcases aFd.1 hq with rfl|hq
   .exact hx
   .exact ih q hq
  .simp at hq
theorem Av {l:List Pu} {k:ByteArray} {q:Pu} (h:q∈wP l k):q.k.toList < k.toList:=(qR _ _).1 (JJ _ l q h)
theorem Hu (l:List Pu) (k:ByteArray):∀q∈lG l k,q∈lX l k:=by
 intro q hq;unfold lG at hq;split at hq
 .simp at hq
 .rename_i x r e
  rw [e];split at hq
  .exact aGU _ hq
  .exact hq
theorem Ck (l:List Pu) (k:ByteArray) (q:Pu) (r:List Pu) (h:lX l k=q::r):¬q.k.toList < k.toList:=by
 grind [lX,qR,List.head?_dropWhile_not]
theorem NI {l:List Pu} {k:ByteArray} (hp:l.Pairwise Oj):∀q∈lG l k,k.toList < q.k.toList:=by
 have hp2:(lX l k).Pairwise Oj:=hp.sublist (aGb _);unfold lG;cases hf:lX l k with
 |nil=>intro q hq;simp at hq
 |cons x r=>
  have hx:=Ck l k x r hf;rw [hf] at hp2;have hr:=(aFR.1 hp2).1;dsimp only;by_cases he:x.k.toList=k.toList
  .grind
  .grind
theorem JI {l:List Pu} {k:ByteArray} (hp:l.Pairwise Oj):(lG l k).Pairwise Oj:=by
 have hp2:(lX l k).Pairwise Oj:=hp.sublist (aGb _);grind [lX,lG]
theorem ade {l:List Pu} (p:Pu) (h:jv l=true):jv (jf l p)=(iG p&&decide ((jf l p).length<=20)):=by
 obtain⟨h1,h2,h3⟩:=(kH l).1 h;apply aF7.2
 rw [kH,aEX,aFu];constructor
 .grind [jf]
 .rintro⟨g1,g3⟩;refine⟨?_,?_,g3⟩
  .intro q hq;unfold jf at hq;rcases aFb.1 hq with hq|hq
   .exact h1 q ((aGm _).mem hq)
   .rcases aFd.1 hq with rfl|hq
    .exact g1
    .exact h1 q ((aGb _).mem (Hu l p.k q hq))
  .unfold jf;rw [List.pairwise_append];refine⟨h2.sublist (aGm _),aFR.2 ⟨λq hq=>NI h2 q hq,JI h2⟩,?_⟩;intro q hq q' hq';rcases aFd.1 hq' with rfl|hq'
   .exact Av hq
   .exact List.lt_trans (Av hq) (NI h2 q' hq')
def sD (l:List Pu) (p:Pu) (n:Int):List Pu×Bool:=
 if jv l&&decide (1<=n/\n<=1000000000)&&jv (jf l p) then(jf l p,true) else(l,false)
end Mth
end Go.Proofs.YtbolgdleijjgfaaGreatDoor
namespace Go.Proofs.YtbolgdleijjgfaaGreatDoor.Mth
open Go.Proofs.Tryz
open Mth
variable (s:ByteArray) (k j m v:Nat) (G:Option (Nat×Nat))
def getF:Nat->List UInt8->Nat->Nat->Nat->Option (Nat×Nat)
 |0,_,_,_,_=>none
 |_+1,[],_,_,_=>none
 |f+1,b::r,n,u,j=>if 128<=b.toNat then getF f r (n+b.toNat % 128*u) (u*128) (j+1) else if 4000000000 < n+b.toNat*u\/(b.toNat=0/\0 < j) then none else some (n+b.toNat*u,j+1)
def get (l:List UInt8) (i:Nat):Option (Nat×Nat):=getF 5 (l.drop i) 0 1 0
theorem xI (f n u j:Nat) (b:UInt8) (r:List UInt8) (h:128<=b.toNat):getF (f+1) (b::r) n u j=getF f r (n+b.toNat % 128*u) (u*128) (j+1):=by simp[getF,h]
theorem wN (f n u j:Nat) (b:UInt8) (r:List UInt8) (h:¬128<=b.toNat) (h2:¬(4000000000 < n+b.toNat*u\/(b.toNat=0/\0 < j))):getF (f+1) (b::r) n u j=some (n+b.toNat*u,j+1):=by simp[getF,h,h2]
theorem FC (f n u j:Nat) (b:UInt8) (r:List UInt8) (h:¬128<=b.toNat) (h2:4000000000 < n+b.toNat*u\/(b.toNat=0/\0 < j)):getF (f+1) (b::r) n u j=none:=by simp[getF,h,h2]
theorem abM (f n u j:Nat):getF f [] n u j=none:=by cases f<;>rfl
theorem drop_cons (s:ByteArray) (k:Nat) (h:k < s.size):s.data.toList.drop k=s[k]::s.data.toList.drop (k+1):=by
 rw [aFD Abm];rfl
theorem Yh (s:ByteArray) (k:Nat) (h:¬k < s.size):s.data.toList.drop k=[]:=by
 apply aGc
 simp only[aFB];show s.size<=k
 omega
theorem get_more (hlt:k < s.size) (hj:j < 5) (hb:128<=s[k].toNat) (h:getF (5 - j) (s.data.toList.drop k) m v j=G):
 getF (5 - (j+1)) (s.data.toList.drop (k+1)) (m+s[k].toNat % 128*v) (v*128) (j+1)=G:=by
 obtain⟨f,hf⟩:∃f,5 - j=f+1:=⟨5 - j - 1,Aaa⟩;grind [drop_cons,xI]
theorem get_hit (hlt:k < s.size) (hj:j < 5) (hb:¬128<=s[k].toNat) (h2:m+s[k].toNat*v<=4000000000) (h3:s[k].toNat≠0\/j=0) (h:getF (5 - j) (s.data.toList.drop k) m v j=G):
 G=some (m+s[k].toNat*v,j+1):=by
 obtain⟨f,hf⟩:∃f,5 - j=f+1:=⟨5 - j - 1,Aaa⟩;grind [drop_cons,wN]
theorem get_bad (hlt:k < s.size) (hj:j < 5) (hb:¬128<=s[k].toNat) (h2:4000000000 < m+s[k].toNat*v\/(s[k].toNat=0/\0 < j)) (h:getF (5 - j) (s.data.toList.drop k) m v j=G):
 G=none:=by
 obtain⟨f,hf⟩:∃f,5 - j=f+1:=⟨5 - j - 1,Aaa⟩;grind [drop_cons,FC]
theorem get_end (hlt:¬k < s.size) (h:getF (5 - j) (s.data.toList.drop k) m v j=G):G=none:=by
 rw [Yh s k hlt,abM] at h;exact h.symm
theorem get_full (l:List UInt8) (m v:Nat) (G:Option (Nat×Nat)) (h:getF (5 - 5) l m v 5=G):G=none:=by
 simp[getF] at h;exact h.symm
theorem FD (f:Nat):∀(l:List UInt8) (n u j m c:Nat),getF f l n u j=some (m,c)->m<=4000000000/\j < c/\c<=j+f/\c - j<=l.length:=by
 induction f with
 |zero=>intro l n u j m c h;simp[getF] at h
 |succ f ih=>
  intro l n u j m c h;cases l with
  |nil=>simp[getF] at h
  |cons b r=>
   by_cases hb:128<=b.toNat
   .grind [xI]
   .grind [FC,wN]
theorem get_bound (l:List UInt8) (i m c:Nat) (h:get l i=some (m,c)):m<=4000000000/\0 < c/\c<=5/\i+c<=l.length:=by
 have:=FD 5 _ _ _ _ _ _ h;simp at this;omega
def val:List UInt8->Nat
 |[]=>0
 |b::r=>b.toNat % 128+128*val r
theorem val_snoc (l:List UInt8) (b:UInt8):val (l++[b])=val l+b.toNat % 128*128 ^ l.length:=by
 induction l with
 |nil=>simp[val]
 |cons c r ih=>simp only[List.cons_append,val,ih,aGe,Nat.pow_succ];rw [Nat.mul_add,aFv];congr 2;rw [aGL (128 ^ r.length) 128,Nat.mul_left_comm]
theorem als (l:List UInt8):val l < 128 ^ l.length:=by
 induction l with
 |nil=>simp[val]
 |cons c r ih=>simp only[val,aGe,Nat.pow_succ];have:=Nat.mod_lt c.toNat (show 0 < 128 by omega);omega
theorem ofNat_toNat (b:UInt8):UInt8.ofNat b.toNat=b:=Aac
theorem putF_val (cs:List UInt8) (b:UInt8) (hb:b.toNat < 128):∀(f:Nat),cs.length<=f->(∀c∈cs,128<=c.toNat)->(b.toNat≠0\/cs=[])->putF f (val (cs++[b]))=cs++[b]:=by
 induction cs with
 |nil=>
  intro f _ _ _;have e:val ([]++[b])=b.toNat:=by simp[val];omega
  rw [e,jG _ _ Aaa,ofNat_toNat];rfl
 |cons c r ih=>
  intro f hf hc h0;have h0':b.toNat≠0:=by simpa using h0
  cases f with
  |zero=>simp at hf
  |succ f=>
   have hcc:128<=c.toNat:=hc c Aac;have hc2:=c.toNat_lt
   have hpos:0 < val (r++[b]):=by
    rw [val_snoc];have:0 < 128 ^ r.length:=Nat.pow_pos Aaa;have h1:b.toNat % 128=b.toNat:=Nat.mod_eq_of_lt hb;rw [h1];have:=Nat.mul_pos (Nat.pos_of_ne_zero h0') this;omega
   have e:val ((c::r)++[b])=c.toNat % 128+128*val (r++[b]):=rfl;rw [e,nT _ _ Aaa];have e1:(c.toNat % 128+128*val (r++[b])) % 128=c.toNat % 128:=Aaa
   have e2:(c.toNat % 128+128*val (r++[b])) / 128=val (r++[b]):=Aaa
   rw [e1,e2,ih f Acb (λx hx=>hc x Aai) (.inl h0')];have e3:128+c.toNat % 128=c.toNat:=Aaa
   rw [e3,ofNat_toNat];rfl
theorem Ze (f:Nat):∀(n:Nat),n < 128 ^ (f+1)->0 < n->∃pre b,putF f n=pre++[b]/\b.toNat≠0:=by
 induction f with
 |zero=>intro n h1 h2;refine⟨[],UInt8.ofNat n,rfl,?_⟩;rw [toNat_byte _ (by simp at h1;omega)];omega
 |succ f ih=>
  intro n h1 h2;by_cases h:n<=127
  .grind [jG,toNat_byte]
  .obtain⟨pre,b,e,hb⟩:=ih (n / 128) (by rw [Nat.div_lt_iff_lt_mul Aaa];rw [Nat.pow_succ] at h1;exact h1) Aaa;rw [nT _ _ h,e];exact⟨_::pre,b,rfl,hb⟩
theorem putF_nought (cs:List UInt8) (b:UInt8) (h0:b.toNat=0) (hne:cs≠[]) (f:Nat) (hf:cs.length<=f):putF f (val (cs++[b]))≠cs++[b]:=by
 intro e
 have hv:val (cs++[b]) < 128 ^ (f+1):=by
  have h1:=als (cs++[b]);have h2:128 ^ (cs++[b]).length<=128 ^ (f+1):=Nat.pow_le_pow_right Aaa Acb;omega
 rcases Nat.eq_zero_or_pos (val (cs++[b])) with hz|hp
 .rw [hz,jG _ _ Aaa] at e;have:=congrArg List.length e;simp at this;exact hne this
 .grind [Ze,List.append_inj_right']
end Go.Proofs.YtbolgdleijjgfaaGreatDoor.Mth
namespace Go.Proofs.YtbolgdleijjgfaaGreatDoor.Mth
open Go.Proofs.Tryz
theorem L9 (f:Nat):∀(l pre:List UInt8) (n j m c:Nat),pre.length=j->j+f=5->(∀x∈pre,128<=x.toNat)->n=val pre->getF f l n (128 ^ j) j=some (m,c)->put m=pre++l.take (c - j):=by
 induction f with
 |zero=>intro l pre n j m c _ _ _ _ h;simp[getF] at h
 |succ f ih=>
  intro l pre n j m c hl hj hp hn h;cases l with
  |nil=>simp[getF] at h
  |cons b r=>
   by_cases hb:128<=b.toNat
   .rw [xI _ _ _ _ _ _ hb] at h;have hc:=(FD f _ _ _ _ _ _ h).2.1
    have:=ih r (pre++[b]) (n+b.toNat % 128*128 ^ j) (j+1) m c Aah Aaa (by
     intro x hx
     rcases aFb.1 hx with hx|hx
     .exact hp x hx
     .simp at hx;subst hx;exact hb) (by rw [val_snoc,hl,hn]) (by rw [Nat.pow_succ];exact h)
    rw [this];obtain⟨d,hd⟩:∃d,c - j=d+1:=⟨c - j - 1,Aaa⟩;have hd2:c - (j+1)=d:=Aaa
    rw [hd,hd2];simp
   .by_cases hx:4000000000 < n+b.toNat*128 ^ j\/(b.toNat=0/\0 < j)
    .rw [FC _ _ _ _ _ _ hb hx] at h;cases h
    .rw [wN _ _ _ _ _ _ hb hx] at h;simp only[aGh,Prod.mk.injEq] at h;obtain⟨h1,h2⟩:=h;have e:m=val (pre++[b]):=by rw [val_snoc,hl,<-hn,Nat.mod_eq_of_lt Aaa];exact h1.symm
     have e2:c - j=1:=Aaa
     rw [e,e2]
     have:=putF_val pre b Aaa 5 Aaa hp (by
      by_cases hz:b.toNat=0
      .right
       have:j=0:=Aaa
       exact List.length_eq_zero_iff.1 Aaa
      .exact .inl hz)
     unfold put;rw [this];simp
theorem get_was_put (l:List UInt8) (i m c:Nat) (h:get l i=some (m,c)):put m=(l.drop i).take c:=by
 have:=L9 5 (l.drop i) [] 0 0 m c rfl rfl Aac rfl (by rw [Nat.pow_zero];exact h);simpa using this
theorem abN (g:Nat):∀(v f n u j:Nat) (y:List UInt8),v < 128 ^ (g+1)->v < 128 ^ f->0 < f->(v≠0\/j=0)->n+v*u<=4000000000->getF f (putF g v++y) n u j=some (n+v*u,j+(putF g v).length):=by
 induction g with
 |zero=>
  intro v f n u j y hv _ hf hz hb;obtain⟨f',rfl⟩:∃f',f=f'+1:=⟨f - 1,Aaa⟩;have hv':v<=127:=by simp at hv;omega
  have e:(UInt8.ofNat v).toNat=v:=toNat_byte _ Aaa;rw [jG _ _ hv',List.singleton_append,wN _ _ _ _ _ _ Acd Acd,e];simp
 |succ g ih=>
  intro v f n u j y hv hvf hf hz hb;obtain⟨f',rfl⟩:∃f',f=f'+1:=⟨f - 1,Aaa⟩;by_cases hs:v<=127
  .have e:(UInt8.ofNat v).toNat=v:=toNat_byte _ Aaa;rw [jG _ _ hs,List.singleton_append,wN _ _ _ _ _ _ Acd Acd,e];simp
  .have e:(UInt8.ofNat (128+v % 128)).toNat=128+v % 128:=toNat_byte _ Aaa;have hm:(128+v % 128) % 128=v % 128:=Aaa
   have hmul:v % 128*u+v / 128*(u*128)=v*u:=by
    have h1:v=128*(v / 128)+v % 128:=Aaa
    conv=>rhs;rw [h1]
    rw [aGC,aGL u 128,<-Nat.mul_assoc,aGL (v / 128) 128];omega
   have hf':0 < f':=by
    rcases Nat.eq_zero_or_pos f' with h|h
    .subst h;simp at hvf;omega
    .exact h
   rw [nT _ _ hs,List.cons_append,xI _ _ _ _ _ _ Acd,e,hm];rw [ih (v / 128) f' (n+v % 128*u) (u*128) (j+1) y (by rw [Nat.div_lt_iff_lt_mul Aaa];rw [Nat.pow_succ] at hv;exact hv) (by rw [Nat.div_lt_iff_lt_mul Aaa];rw [Nat.pow_succ] at hvf;exact hvf) hf' (.inl Aaa) Aaa];simp only[aGe,aGh,Prod.mk.injEq];omega
end Go.Proofs.YtbolgdleijjgfaaGreatDoor.Mth
namespace Go.Proofs.YtbolgdleijjgfaaGreatDoor
open Go.Proofs.Tryz
set_option maxHeartbeats 4000000
set_option maxRecDepth 100000
open Go.RowKit
open Mth
variable {G:Option (Nat×Nat)} {i:Int}
theorem zm (i:Int) (w:World):Calls prog 267 #[.int .i64 i] w λe w'=>e= .returned (.iface 287 (.agg #[.iface 289 (.agg #[.int .i64 i])]))/\w=w':=by
 go_in
 go_wp2
 go_ret;exact⟨rfl,rfl⟩
def sU (o:Option (Nat×Nat)) (i:Int):Value:=
 match o with
 |none=> .tuple #[.int .i64 0,.int .i64 0,.iface 287 (.agg #[.iface 289 (.agg #[.int .i64 i])])]
 |some (n,c)=> .tuple #[.int .i64 n,.int .i64 (i+c),.nilIface]
theorem Y7 (s:ByteArray) (i:Int) (w:World) (h:i < 0):Calls prog 266 #[.string s,.int .i64 i] w λe w'=>e= .returned (sU none i)/\w=w':=by
 go_in
 go_wp2_with (go_at_call 267;refine(zm _ _).mono ?_;rintro e w' ⟨rfl,rfl⟩)
 go_ret3
 exact⟨rfl,rfl⟩
def rA (j u:Nat):Prop:=(j=0/\u=1)\/(j=1/\u=128)\/(j=2/\u=16384)\/(j=3/\u=2097152)\/(j=4/\u=268435456)\/(j=5/\u=34359738368)
theorem QU {a b:Int} {n c:Nat} (hG:G=some (n,c)) (ha:a=n) (hb:b=i+c):Ending.returned (.tuple #[.int .i64 a,.int .i64 b,.nilIface])= .returned (sU G i):=by
 subst hG;subst ha;subst hb;rfl
theorem adj (hG:G=none):Ending.returned (.tuple #[.int .i64 0,.int .i64 0,.iface 287 (.agg #[.iface 289 (.agg #[.int .i64 i])])])= .returned (sU G i):=by
 subst hG;rfl
theorem Xp {j u:Nat} (h:rA j u):1<=u/\(j < 5->u<=268435456)/\(j < 5->rA (j+1) (u*128))/\(¬j < 5->j=5/\4000000000 < u):=by
 unfold rA at *;rcases h with⟨rfl,rfl⟩|⟨rfl,rfl⟩|⟨rfl,rfl⟩|⟨rfl,rfl⟩|⟨rfl,rfl⟩|⟨rfl,rfl⟩<;>simp
theorem afz (b v:Nat):0<=(b:Int) % 128*(v:Int)/\(b:Int) % 128*(v:Int)<=127*(v:Int):=by
 have h1:0<=(b:Int) % 128:=Aaa
 have h2:(b:Int) % 128<=127:=Aaa
 exact⟨Int.mul_nonneg h1 Aaa,Int.mul_le_mul_of_nonneg_right h2 Aaa⟩
theorem M7 (b v:Nat) (hb:¬128<=b):(b:Int) % 128*(v:Int)=((b*v:Nat):Int):=by
 rw [Int.emod_eq_of_lt Aaa Aaa];simp
theorem QC (m b v:Nat) (hb:¬128<=b) (h:(4000000000:Int) < (m:Int)+(b:Int) % 128*(v:Int)):4000000000 < m+b*v:=by
 rw [M7 b v hb] at h;generalize b*v=x at *;omega
theorem zo (m b v:Nat) (hb:¬128<=b) (h:¬(4000000000:Int) < (m:Int)+(b:Int) % 128*(v:Int)):m+b*v<=4000000000:=by
 rw [M7 b v hb] at h;generalize b*v=x at *;omega
theorem KF (m b v:Nat) (h:m < v):m+b % 128*v < v*128:=by
 have h1:b % 128<=127:=Aaa
 have h2:=aGk v h1;omega
theorem QE (m b v:Nat) (hb:¬128<=b):(m:Int)+(b:Int) % 128*(v:Int)=((m+b*v:Nat):Int):=by
 rw [M7 b v hb];generalize b*v=x;omega
theorem QD (m b v:Nat) (hb:(b:Int)<=0):(m:Int)=((m+b*v:Nat):Int):=by
 have:b=0:=Aaa
 subst this;simp
theorem azn (s:ByteArray) (i:Nat) (w:World) (hs:s.size<=maxLen):Calls prog 266 #[.string s,.int .i64 i] w λe w'=>e= .returned (sU (Mth.get s.data.toList i) i)/\w=w':=by
 unfold maxLen at hs;have h0:decide ((i:Int) < 0)=false:=Aac
 go_in
 go_wp2
 go_loop [7,8,9] (λn u a=>∃j m v k:Nat,rA j v/\m < v/\n= .int .i64 m/\u= .int .i64 v/\a= .int .i64 k/\k=i+j/\Mth.getF (5 - j) (s.data.toList.drop k) m v j=Mth.get s.data.toList i) (λ_ _ a=>s.size - (intOf a).toNat)
 case atStart=>exact⟨0,0,1,i,.inl ⟨rfl,rfl⟩,Aaa,rfl,rfl,rfl,rfl,rfl⟩
 case round=>
  obtain⟨j,m,v,k,hu,hm,rfl,rfl,rfl,hk,hget⟩:=hrel;have HG:=Hq hget;have HK:=Hq hk;clear hget hk;obtain⟨hv1,hv2,hu2,hv5⟩:=Xp hu;by_cases hlt:k < s.size
  .by_cases hj:j < 5
   .open arw in exact axl
   .obtain⟨rfl,ayF⟩:=hv5 hj;have HR:=Hq (Mth.get_full _ _ _ _ HG);clear hv2 hu2 hv5 hu;exact aeC
  .have HR:=Hq (Mth.get_end s k _ m _ _ hlt HG);clear hv2 hu2 hv5 hu;exact aeC
abbrev muL:Go.Conc.Locks.MuLink:={lock:=62,unlock:=63,ilock:=114,iunlock:=115,lockSlow:=139,unlockSlow:=142,disable:=135,enable:=137,acquire:=138,relMerge:=140,cas32:=136,add32:=141,tMutex:=113,tIMutex:=111,tPMutex:=167,tPIMutex:=189,tPI32:=191,tUP:=193,tNoCopy:=108,tU32:=109}
theorem WY:Go.Conc.Locks.MuLib prog muL where
 f_lock:=func62.trans Aab
 f_unlock:=func63.trans Aab
 f_ilock:=func114.trans Aab
 f_iunlock:=func115.trans Aab
 f_disable:=func135.trans Aab
 f_enable:=func137.trans Aab
 f_acquire:=func138.trans Aab
 f_relMerge:=func140.trans Aab
 f_cas32:=func136.trans Aab
 f_add32:=func141.trans Aab
 underlying_tIMutex:=Aab
 runUnderlying_tIMutex:=λ_=>by kernel_rfl
 sizeOf_tIMutex:=λ_=>by kernel_rfl
 isAgg_tIMutex:=λ_=>by kernel_rfl
 zeroValue_tIMutex:=λ_=>by kernel_rfl
 underlying_tMutex:=Aab
 runUnderlying_tMutex:=λ_=>by kernel_rfl
 sizeOf_tMutex:=λ_=>by kernel_rfl
 isAgg_tMutex:=λ_=>by kernel_rfl
 zeroValue_tMutex:=λ_=>by kernel_rfl
 underlying_tPMutex:=Aab
 runUnderlying_tPMutex:=λ_=>by kernel_rfl
 sizeOf_tPMutex:=λ_=>by kernel_rfl
 isAgg_tPMutex:=λ_=>by kernel_rfl
 zeroValue_tPMutex:=λ_=>by kernel_rfl
 underlying_tPIMutex:=Aab
 runUnderlying_tPIMutex:=λ_=>by kernel_rfl
 sizeOf_tPIMutex:=λ_=>by kernel_rfl
 isAgg_tPIMutex:=λ_=>by kernel_rfl
 zeroValue_tPIMutex:=λ_=>by kernel_rfl
 underlying_tPI32:=Aab
 runUnderlying_tPI32:=λ_=>by kernel_rfl
 sizeOf_tPI32:=λ_=>by kernel_rfl
 isAgg_tPI32:=λ_=>by kernel_rfl
 zeroValue_tPI32:=λ_=>by kernel_rfl
 underlying_tUP:=Aab
 runUnderlying_tUP:=λ_=>by kernel_rfl
 sizeOf_tUP:=λ_=>by kernel_rfl
 isAgg_tUP:=λ_=>by kernel_rfl
 zeroValue_tUP:=λ_=>by kernel_rfl
 underlying_tNoCopy:=Aab
 runUnderlying_tNoCopy:=λ_=>by kernel_rfl
 sizeOf_tNoCopy:=λ_=>by kernel_rfl
 isAgg_tNoCopy:=λ_=>by kernel_rfl
 zeroValue_tNoCopy:=λ_=>by kernel_rfl
 underlying_t21:=Aab
 runUnderlying_t21:=λ_=>by kernel_rfl
 sizeOf_t21:=λ_=>by kernel_rfl
 isAgg_t21:=λ_=>by kernel_rfl
 zeroValue_t21:=λ_=>by kernel_rfl
 room_tIMutex:=Aab
end Go.Proofs.YtbolgdleijjgfaaGreatDoor
