/- Parts. -/
import Derived.Test.YtohmklmkjmlpjaaGreatDoorRc1
namespace Go.Proofs.YtohmklmkjmlpjaaGreatDoor
open Go.Proofs.Tryz
set_option maxHeartbeats 2000000
namespace GR
open Go.RowKit
section
variable {α:Type} (enc:α->List Value) (sz:Nat)
def flat (l:List α):List Value:=l.flatMap enc
theorem flat_nil:flat enc []=[]:=rfl
theorem flat_cons (x:α) (r:List α):flat enc (x::r)=enc x++flat enc r:=rfl
theorem flat_append (l r:List α):flat enc (l++r)=flat enc l++flat enc r:=by simp[flat]
theorem flat_one (x:α):flat enc [x]=enc x:=by simp[flat]
theorem flat_length (h:∀x,(enc x).length=sz) (l:List α):(flat enc l).length=l.length*sz:=by
 induction l with
 |nil=>simp[flat]
 |cons x r ih=>rw [flat_cons,aGp,ih,h,aHt,aIh,Nat.one_mul,Nat.add_comm]
theorem flat_at (h:∀x,(enc x).length=sz):∀(l:List α) (i:Nat) (hi:i < l.length) (j:Nat),j < sz->(flat enc l)[i*sz+j]?=(enc l[i])[j]?:=by
 intro l;induction l with
 |nil=>intro i hi;simp at hi
 |cons x r ih=>
  intro i hi j hj;rw [flat_cons];cases i with
  |zero=>
   rw [Nat.zero_mul,aHj,aHJ (by rw [h];exact hj)];rfl
  |succ i=>
   have e:(i+1)*sz+j=sz+(i*sz+j):=by rw [aIh,Nat.one_mul];omega
   rw [List.getElem?_append_right (by rw [h];omega),h,e,Nat.add_sub_cancel_left,ih i Aao j hj];rfl
def setRun (xs:List Value) (o:Nat):List Value->List Value
 |[]=>xs
 |v::vs=>setRun (xs.set o v) (o+1) vs
theorem setRun_append_right (a:List Value):∀(vs:List Value) (o:Nat) (b:List Value),setRun (a++b) (a.length+o) vs=a++setRun b o vs:=by
 intro vs;induction vs with
 |nil=>intro o b;rfl
 |cons v vs ih=>
  intro o b;show setRun ((a++b).set (a.length+o) v) (a.length+o+1) vs=a++setRun (b.set o v) (o+1) vs
  rw [aHL _ _ Aaa,Nat.add_sub_cancel_left,aGI,ih]
theorem setRun_head:∀(vs a b:List Value),vs.length=a.length->setRun (a++b) 0 vs=vs++b:=by
 intro vs;induction vs with
 |nil=>intro a b h;have:a=[]:=aGM (by simpa using h.symm);subst this;rfl
 |cons v vs ih=>
  intro a b h;cases a with
  |nil=>simp at h
  |cons y a=>
   show setRun (((y::a)++b).set 0 v) (0+1) vs=v::vs++b
   have e:((y::a)++b).set 0 v=[v]++(a++b):=rfl;rw [e,aHj];have h2:=setRun_append_right [v] vs 0 (a++b);simp only[List.length_singleton,aIa] at h2;rw [h2,ih a b Abd];rfl
theorem flat_set (h:∀x,(enc x).length=sz):∀(l:List α) (i:Nat) (x:α),i < l.length->setRun (flat enc l) (i*sz) (enc x)=flat enc (l.set i x):=by
 intro l;induction l with
 |nil=>intro i x hi;simp at hi
 |cons y r ih=>
  intro i x hi;cases i with
  |zero=>
   rw [Nat.zero_mul,flat_cons,setRun_head _ _ _ (by rw [h,h])];rfl
  |succ i=>
   have e:(i+1)*sz=(enc y).length+i*sz:=by rw [h,aIh,Nat.one_mul,Nat.add_comm]
   rw [flat_cons,e,setRun_append_right _,ih i x Aao];rfl
def At (w:World) (a:Option Addr) (l:List α):Prop:=∀i (hi:i < l.length),∃g off,a=some ⟨g,off,none⟩/\g < w.heap.size/\∀j,j < sz->w.cell? ⟨g,off+(i*sz+j),none⟩=(enc l[i])[j]?
theorem At.below {enc:α->List Value} {sz:Nat} {w w':World} {a:Option Addr} {l:List α} (h:At enc sz w a l) (hb:aI w w'):At enc sz w' a l:=λi hi=>by
 obtain⟨g,off,e,hg,hc⟩:=h i hi;exact⟨g,off,e,aGq hg hb.size,λj hj=>(hb.cell (p:=⟨g,off+(i*sz+j),none⟩) hg).trans (hc j hj)⟩
theorem at_nil {w:World} {a:Option Addr}:At enc sz w a []:=λi hi=>by simp at hi
def Blk (t:TypeId) (w:World) (g:Nat) (l:List α):Prop:=w.heap[g]?=some (.cells (flat enc l).toArray t (0,0))
theorem Blk.cell {enc:α->List Value} {sz:Nat} {t:TypeId} {w:World} {g:Nat} {l:List α} (h:Blk enc t w g l) (hs:∀x,(enc x).length=sz) (i:Nat) (hi:i < l.length) (j:Nat) (hj:j < sz):w.cell? ⟨g,i*sz+j,none⟩=(enc l[i])[j]?:=by
 rw [aGu w g _ _ t (0,0) h];simpa using flat_at enc sz hs l i hi j hj
theorem Blk.free {enc:α->List Value} {t:TypeId} {w:World} {g:Nat} {l:List α} (h:Blk enc t w g l) (i:Nat):w.frozen? ⟨g,i,none⟩=false:=by
 unfold World.frozen?;rw [h];simp
theorem Blk.lt {enc:α->List Value} {t:TypeId} {w:World} {g:Nat} {l:List α} (h:Blk enc t w g l):g < w.heap.size:=by
 rcases aHa g w.heap.size with h'|h'
 .exact h'
 .rw [Blk,aGU h'] at h;cases h
theorem Blk.at {enc:α->List Value} {sz:Nat} {t:TypeId} {w:World} {g:Nat} {l:List α} (h:Blk enc t w g l) (hs:∀x,(enc x).length=sz):At enc sz w (some ⟨g,0,none⟩) l:=λi hi=>
 ⟨g,0,rfl,h.lt,λj hj=>by rw [aHj];exact h.cell hs i hi j hj⟩
def setW (w:World) (g o:Nat):List Value->World
 |[]=>w
 |v::vs=>setW (w.setCell ⟨g,o,none⟩ v) g (o+1) vs
theorem setW_blk:∀(vs:List Value) {w:World} {g o:Nat} {xs:List Value} {t:TypeId},w.heap[g]?=some (.cells xs.toArray t (0,0))->(setW w g o vs).heap[g]?=some (.cells (setRun xs o vs).toArray t (0,0)):=by
 intro vs;induction vs with
 |nil=>intro w g o xs t h;exact h
 |cons v vs ih=>
  intro w g o xs t h;refine ih (xs:=xs.set o v) ?_;unfold World.setCell;simp only[Array.getElem?_modify];rw [aGC trivial,h];simp
theorem Blk.set {enc:α->List Value} {sz:Nat} {t:TypeId} {w:World} {g:Nat} {l:List α} (h:Blk enc t w g l) (hs:∀x,(enc x).length=sz) (i:Nat) (hi:i < l.length) (x:α):Blk enc t (setW w g (i*sz) (enc x)) g (l.set i x):=by
 have h2:=setW_blk (enc x) (o:=i*sz) h;rw [flat_set enc sz hs l i x hi] at h2;exact h2
theorem setW_below {B:Nat} {a:World} {g:Nat} (hg:B<=g):∀(vs:List Value) {w:World} {o:Nat},Below B a w->Below B a (setW w g o vs):=by
 intro vs;induction vs with
 |nil=>intro w o h;exact h
 |cons v vs ih=>intro w o h;exact ih (h.setCell (p:=⟨g,o,none⟩) hg v)
theorem setW_other {g g':Nat} (hne:g'≠g):∀(vs:List Value) {w:World} {o:Nat},(setW w g o vs).heap[g']?=w.heap[g']?:=by
 intro vs;induction vs with
 |nil=>intro w o;rfl
 |cons v vs ih=>intro w o;exact(ih (w:=w.setCell ⟨g,o,none⟩ v)).trans (aGx _ _ _ _ hne)
theorem made_flat (h:∀x,(enc x).length=sz) (hz:0 < sz) (x:α) (z:Array Value) (he:z.toList=enc x) (n:Nat):madeCells z (n*sz)=(flat enc (List.replicate n x)).toArray:=by
 have hzs:z.size=sz:=by rw [<-aG2,he,h]
 apply Array.ext_getElem?
 intro k;by_cases hk:k < n*sz
 .have hq:k / sz < n:=Nat.div_lt_of_lt_mul (by rw [aIj];exact hk);have hr:k % sz < sz:=Nat.mod_lt _ hz;have hf:=flat_at enc sz h (List.replicate n x) (k / sz) (by simpa using hq) (k % sz) hr;have ek:k / sz*sz+k % sz=k:=Nat.div_add_mod' k sz;rw [ek] at hf;have h1:(madeCells z (n*sz))[k]?=some (z[k % z.size]!):=by simp[madeCells,hk]
  rw [h1,hzs]
  have h2:(flat enc (List.replicate n x)).toArray[k]?=(enc x)[k % sz]?:=by
   rw [aHN,hf];simp
  rw [h2,<-he];have h3:k % sz < z.size:=Aaa
  rw [getElem!_pos z (k % sz) h3,Array.getElem?_toList,Array.getElem?_eq_getElem h3]
 .have h1:(madeCells z (n*sz)).size<=k:=by simp[madeCells];omega
  have h2:(flat enc (List.replicate n x)).toArray.size<=k:=by
   rw [aHh,flat_length enc sz h];simp;omega
  rw [aGU h1,aGU h2]
theorem own_at {enc:α->List Value} {sz:Nat} {w:World} {base:Nat} {e:TypeId} {v:Value} {l:List α} (hs:∀x,(enc x).length=sz) (h:w.ownsRow base e sz v l.length (flat enc l)):∃a cap,v= .slice a l.length cap/\At enc sz w a l:=by
 rcases h.2 with⟨rfl,hn⟩|⟨g,cap,cur,rfl,hg,hblk,_⟩
 .exact⟨none,0,by rw [hn],λi hi=>Aaa⟩
 .refine⟨_,cap,rfl,λi hi=>⟨g,0,rfl,?_,λj hj=>?_⟩⟩
  .rcases aHa g w.heap.size with h'|h'
   .exact h'
   .rw [aGU h'] at hblk;cases hblk
  .have hf:=flat_at enc sz hs l i hi j hj;have hj':j < (enc l[i]).length:=by rw [hs];exact hj
   rw [aGo hj'] at hf ⊢;have:=h.cells rfl (i*sz+j) _ hf;have ea:(⟨g,0,none⟩:Addr).add (i*sz+j)=⟨g,0+(i*sz+j),none⟩:=by unfold Addr.add;split<;>simp_all
   rw [ea] at this;exact this
end
end GR
namespace Mth
structure Pu where
 k:ByteArray
 m:Int
 f:Int
 s:Int
instance:Inhabited Pu:=⟨⟨ByteArray.empty,0,0,0⟩⟩
abbrev fD (p:Pu):List Value:=[.string p.k,.int .i64 p.m,.int .i64 p.f,.int .i64 p.s]
abbrev xW (p:Pu):Value:= .agg #[.string p.k,.int .i64 p.m,.int .i64 p.f,.int .i64 p.s]
theorem aU (p:Pu):(fD p).length=4:=rfl
def sle (a b:ByteArray):Bool:=Op.bytesLess a.toList b.toList||a.toList == b.toList
def rz (n:Int):Bool:=decide (0<=n/\n<=1000000000)
def iI (p:Pu):Bool:=keyOk p.k.data.toList&&rz p.m&&rz p.f&&rz p.s&&rz (p.f+p.s)
def oC (l:List Pu) (i:Nat):Bool:=iI (l.getD i default)&&(i == 0|| !sle (l.getD i default).k (l.getD (i - 1) default).k)
def jD (l:List Pu):Bool:=(List.range l.length).all (oC l)&&decide (l.length<=20)
theorem qC (f:Nat->Bool) (k:Nat):(List.range (k+1)).all f=((List.range k).all f&&f k):=by
 rw [aIn,List.all_append];simp
theorem oD {l:List Pu} {i:Nat} (hi:i < l.length) (h:oC l i=false):jD l=false:=by
 unfold jD
 have:(List.range l.length).all (oC l)=false:=by
  rw [List.all_eq_false];exact⟨i,aG7.2 hi,by rw [h];simp⟩
 rw [this];rfl
theorem Zc {l:List Pu} (h:(List.range l.length).all (oC l)=true):jD l=decide (l.length<=20):=by unfold jD;rw [h];rfl
def aD (l:List Pu) (k:ByteArray):Pu:=(l.find? λp=>p.k.toList == k.toList).getD ⟨k,0,0,0⟩
theorem J6 (f:Pu->Bool) (l:List Pu) (i:Nat) (hi:i < l.length) (h:(l.take i).find? f=none):(f l[i]=true->l.find? f=some l[i])/\(f l[i]=false->(l.take (i+1)).find? f=none):=by
 exact azV
theorem getD_at (l:List Pu) (i:Nat) (hi:i < l.length):l.getD i default=l[i]:=by rw [aGK,aGo hi];rfl
end Mth
abbrev jh (k:ByteArray) (m f s:Int):Array Value:=#[.string k,.int .i64 m,.int .i64 f,.int .i64 s]
abbrev gV (i t:Int) (k:ByteArray) (n:Int):Array Value:=#[.int .i64 i,.int .i64 t,.string k,.int .i64 n]
abbrev fH (i:Int) (k:ByteArray) (n s:Int):Array Value:=#[.int .i64 i,.string k,.int .i64 n,.int .i64 s]
namespace Mth
abbrev M4 (a b:Pu):Prop:=a.k.toList < b.k.toList
theorem qJ (a b:ByteArray):Op.bytesLess a.toList b.toList=true↔a.toList < b.toList:=by
 rw [bytesLess_eq,aGR]
theorem nY (a b:ByteArray):sle a b=false↔b.toList < a.toList:=by
 unfold sle;rw [bytesLess_eq,Bool.or_eq_false_iff,aIm,aHS];constructor
 .rintro⟨h1,h2⟩;rcases List.le_iff_lt_or_eq.1 (List.not_lt.1 h1) with h|h
  .exact h
  .exact absurd h.symm h2
 .intro h;exact⟨List.lt_asymm h,λe=>by rw [e] at h;exact List.lt_irrefl _ h⟩
theorem Cw {R:Pu->Pu->Prop} (tr:∀a b c,R a b->R b c->R a c):∀(l:List Pu),(∀i (h:i+1 < l.length),R l[i] l[i+1])->l.Pairwise R:=by
 intro l;induction l with
 |nil=>intro _;exact List.Pairwise.nil
 |cons x r ih=>
  intro h;have hr:r.Pairwise R:=ih λi hi=>h (i+1) Aao
  refine List.Pairwise.cons ?_ hr;intro y hy;cases r with
  |nil=>simp at hy
  |cons z s=>
   have hxz:R x z:=h 0 Aac;rcases aGF.1 hy with rfl|hy
   .exact hxz
   .exact tr _ _ _ hxz ((aGX.1 hr).1 y hy)
theorem kQ (l:List Pu):jD l=true↔(∀p∈l,iI p=true)/\l.Pairwise M4/\l.length<=20:=by
 unfold jD;rw [aGl,aHX,aGR];constructor
 .rintro⟨h,h20⟩;refine⟨?_,?_,h20⟩
  .intro p hp;obtain⟨i,hi,rfl⟩:=aHm.1 hp;have h1:=h i (aG7.2 hi);unfold oC at h1;rw [aGl] at h1;simpa [List.getD,hi] using h1.1
  .refine Cw (λa b c (h1:M4 a b) (h2:M4 b c)=>(List.lt_trans h1 h2:M4 a c)) l λi hi=>?_
   have h1:=h (i+1) (aG7.2 hi);unfold oC at h1;rw [aGl] at h1;have h2:=h1.2;have hi0:i < l.length:=Aaa
   simp[List.getD,hi,hi0] at h2;exact(nY _ _).1 h2
 .rintro⟨h,hp,h20⟩;refine⟨?_,h20⟩;intro i hi;have hi':=aG7.1 hi;unfold oC;rw [aGl];refine⟨by simpa [List.getD,hi'] using h l[i] (aGz hi'),?_⟩;cases i with
  |zero=>rfl
  |succ i=>
   have hi0:i < l.length:=Aaa
   have h2:=(nY l[i+1].k l[i].k).2 (aGZ.1 hp i (i+1) hi0 hi' Aaa);simp[List.getD,hi',hi0,h2]
def sW (l:List Pu) (k:ByteArray):List Pu:=l.takeWhile λq=>Op.bytesLess q.k.toList k.toList
def lJ (l:List Pu) (k:ByteArray):List Pu:=l.dropWhile λq=>Op.bytesLess q.k.toList k.toList
def lD (l:List Pu) (k:ByteArray):List Pu:=match lJ l k with
 |[]=>[]
 |q::r=>if q.k.toList == k.toList then r else q::r
def jr (l:List Pu) (p:Pu):List Pu:=sW l p.k++p::lD l p.k
theorem xw (l:List Pu) (k:ByteArray):sW l k++lJ l k=l:=aHT
theorem JA (f:Pu->Bool):∀(l:List Pu) (q:Pu),q∈l.takeWhile f->f q=true:=by
 intro l;induction l with
 |nil=>intro q hq;simp at hq
 |cons x r ih=>
  intro q hq;rw [List.takeWhile_cons] at hq;split at hq
  .rename_i hx
   rcases aGF.1 hq with rfl|hq
   .exact hx
   .exact ih q hq
  .simp at hq
theorem Ab {l:List Pu} {k:ByteArray} {q:Pu} (h:q∈sW l k):q.k.toList < k.toList:=(qJ _ _).1 (JA _ l q h)
theorem GY (l:List Pu) (k:ByteArray):∀q∈lD l k,q∈lJ l k:=by
 intro q hq;unfold lD at hq;split at hq
 .simp at hq
 .rename_i x r e
  rw [e];split at hq
  .exact aHY _ hq
  .exact hq
theorem Ce (l:List Pu) (k:ByteArray) (q:Pu) (r:List Pu) (h:lJ l k=q::r):¬q.k.toList < k.toList:=by
 unfold lJ at h;have h2:=List.head?_dropWhile_not (λq:Pu=>Op.bytesLess q.k.toList k.toList) l;rw [h] at h2;simp at h2;intro h3;rw [(qJ _ _).2 h3] at h2;cases h2
theorem N8 {l:List Pu} {k:ByteArray} (hp:l.Pairwise M4):∀q∈lD l k,k.toList < q.k.toList:=by
 have hp2:(lJ l k).Pairwise M4:=hp.sublist (aHz _);unfold lD;cases hf:lJ l k with
 |nil=>intro q hq;simp at hq
 |cons x r=>
  have hx:=Ce l k x r hf;rw [hf] at hp2;have hr:=(aGX.1 hp2).1;dsimp only;by_cases he:x.k.toList=k.toList
  .rw [aGC (by simpa using he)];intro q hq;have:=hr q hq;unfold M4 at this;rw [he] at this;exact this
  .rw [aGr (by simpa using he)]
   have hkx:k.toList < x.k.toList:=by
    rcases List.le_iff_lt_or_eq.1 (List.not_lt.1 hx) with h|h
    .exact h
    .exact absurd h.symm he
   intro q hq;rcases aGF.1 hq with rfl|hq
   .exact hkx
   .exact List.lt_trans hkx (hr q hq)
theorem Jz {l:List Pu} {k:ByteArray} (hp:l.Pairwise M4):(lD l k).Pairwise M4:=by
 have hp2:(lJ l k).Pairwise M4:=hp.sublist (aHz _);unfold lD;cases hf:lJ l k with
 |nil=>exact List.Pairwise.nil
 |cons x r=>
  rw [hf] at hp2;dsimp only;split
  .exact(aGX.1 hp2).2
  .exact hp2
theorem adD {l:List Pu} (p:Pu) (h:jD l=true):jD (jr l p)=(iI p&&decide ((jr l p).length<=20)):=by
 obtain⟨h1,h2,h3⟩:=(kQ l).1 h;apply aHu.2
 rw [kQ,aGl,aGR];constructor
 .rintro⟨g1,_,g3⟩;exact⟨g1 p (by unfold jr;simp),g3⟩
 .rintro⟨g1,g3⟩;refine⟨?_,?_,g3⟩
  .intro q hq;unfold jr at hq;rcases aGE.1 hq with hq|hq
   .exact h1 q ((aHH _).mem hq)
   .rcases aGF.1 hq with rfl|hq
    .exact g1
    .exact h1 q ((aHz _).mem (GY l p.k q hq))
  .unfold jr;rw [List.pairwise_append];refine⟨h2.sublist (aHH _),aGX.2 ⟨λq hq=>N8 h2 q hq,Jz h2⟩,?_⟩;intro q hq q' hq';rcases aGF.1 hq' with rfl|hq'
   .exact Ab hq
   .exact List.lt_trans (Ab hq) (N8 h2 q' hq')
def rR (l:List Pu) (p:Pu) (n:Int):List Pu×Bool:=
 if jD l&&decide (1<=n/\n<=1000000000)&&jD (jr l p) then(jr l p,true) else(l,false)
end Mth
set_option maxRecDepth 100000
open Go.RowKit Go.Extern.Stop Go.Stop Go.Extern
structure iK (w:World) (E:Nat->Addr):Prop where
 var:∀i,(1<=i/\i < 6)->w.cell? ⟨i,0,none⟩=some (.iface 372 (.pointer (some (E i))))
 row:∀i,(1<=i/\i < 6)->∃c t,w.heap[(E i).block]?=some (.cells c t (0,0))
 ne:∀i j,(1<=i/\i < 6)->(1<=j/\j < 6)->i≠j->E i≠E j
theorem iK.below {w w':World} {E:Nat->Addr} (h:iK w E) (hb:aI w w'):iK w' E:=by
 refine⟨λi hi=>?_,λi hi=>?_,h.ne⟩
 .rw [hb.cell (p:=⟨i,0,none⟩) (aHs _ _ (h.var i hi))];exact h.var i hi
 .obtain⟨c,t,hc⟩:=h.row i hi;refine⟨c,t,?_⟩;rw [hb.block _ ?_]
  .exact hc
  .rcases aHa (E i).block w.heap.size with h'|h'
   .exact h'
   .rw [aGU h'] at hc;cases hc
abbrev uJ (a:Addr):Value:= .iface 372 (.pointer (some a))
namespace Is
theorem typeOf (v:Value) (w:World):(Extern.ReflectliteType.typeOf #[.iface 372 v]).run Tryz.prog w= .ok (.iface 330 (.agg #[.pointer (some ⟨6,372,none⟩)])) w:=Aab
def cmp:Array Value->Sem Value:=Extern.ReflectliteType.method λt=>do Extern.Rtype.noPackHeld "Comparable" t;pure (.bool (<-typeInfo t).comparable)
theorem comparable (w:World):(cmp #[.agg #[.pointer (some ⟨6,372,none⟩)]]).run Tryz.prog w= .ok (.bool true) w:=Aab
theorem methodComparable (v:Value) (w:World):(Go.method 501 330 v "Comparable").run Tryz.prog w= .ok (350,v) w:=Aab
theorem comp:(Tryz.prog.info? 372).map (·.comparable)=some true:=Aab
theorem size:(Tryz.prog.info? 390).map (·.size)=some 1:=Aab
theorem noIs (v:Value) (xT:TypeId) (w:World):(Instr.typeAssert (.iface 372 v) xT 366 true).run Tryz.prog w= .ok (.tuple #[.nilIface,.bool false]) w:=run_typeAssert_lacksB Tryz.underlying366 Aab Aab v xT w
theorem noUnwrap (v:Value) (xT:TypeId) (w:World):(Instr.typeAssert (.iface 372 v) xT 338 true).run Tryz.prog w= .ok (.tuple #[.nilIface,.bool false]) w:=run_typeAssert_lacksB Tryz.underlying338 Aab Aab v xT w
theorem noUnwraps (v:Value) (xT:TypeId) (w:World):(Instr.typeAssert (.iface 372 v) xT 340 true).run Tryz.prog w= .ok (.tuple #[.nilIface,.bool false]) w:=run_typeAssert_lacksB Tryz.underlying340 Aab Aab v xT w
end Is
theorem afF (a:Addr) (w:World):Calls Tryz.prog 288 #[uJ a,uJ a] w λe w'=>e= .returned (.bool true)/\w=w':=by
 open ar6 in exact ayS
theorem alX (b:Addr) (w:World):Calls Tryz.prog 288 #[.nilIface,uJ b] w λe w'=>e= .returned (.bool false)/\w=w':=by
 have hn:=run_eql_iface_nil_left (P:=Tryz.prog) w 372 (.pointer (some b)) Tryz.underlying242;go_in
 go_wp2
 go_ret;exact⟨rfl,rfl⟩
theorem acZ (a b:Addr) (ca cb:Array Value) (ta tb:TypeId) (w:World) (hne:a≠b) (ha:w.heap[a.block]?=some (.cells ca ta (0,0))) (hb:w.heap[b.block]?=some (.cells cb tb (0,0))):
 Calls Tryz.prog 288 #[uJ a,uJ b] w λe w'=>e= .returned (.bool false)/\w=w':=by
 open ar5 in exact ayS
theorem ajZ {w:World} {E:Nat->Addr} (h:iK w E) (i j:Nat) (b:Bool) (hi:(1<=i/\i < 6)) (hj:(1<=j/\j < 6)) (hb:(i == j)=b):Calls Tryz.prog 288 #[uJ (E i),uJ (E j)] w λe w'=>e= .returned (.bool b)/\w=w':=by
 cases b with
 |true=>
  have e:i=j:=by simpa using hb
  subst e;exact afF (E i) w
 |false=>
  obtain⟨c1,t1,h1⟩:=h.row i hi;obtain⟨c2,t2,h2⟩:=h.row j hj;exact acZ (E i) (E j) c1 c2 t1 t2 w (h.ne i j hi hj (by simpa using hb)) h1 h2
open Go.Shelf Go.Proofs
def vO:Go.Shelf.Ren:=⟨fun|17=>318|22=>311|29=>314|30=>315|36=>317|26=>310|33=>312|34=>313|38=>316|n=>n,fun|0=>0|3=>3|4=>4|9=>9|24=>350|40=>220|n=>n,λn=>n⟩
theorem uS:Lays2.n22 Tryz.prog vO:={
 mixed:=Aab
 f17:=Tryz.func318.trans (congrArg some Aab)
 f22:=Tryz.func311.trans (congrArg some Aab)
 f29:=Tryz.func314.trans (congrArg some Aab)
 f30:=Tryz.func315.trans (congrArg some Aab)
 f36:=Tryz.func317.trans (congrArg some Aab)
 t0:=Tryz.underlying0
 a0:=Tryz.isAgg0
 z0:=Tryz.sizeOf0
 v0:=Tryz.zeroValue0
 t3:=Tryz.underlying3
 a3:=Tryz.isAgg3
 z3:=Tryz.sizeOf3
 v3:=Tryz.zeroValue3
 t4:=Tryz.underlying4
 a4:=Tryz.isAgg4
 z4:=Tryz.sizeOf4
 v4:=Tryz.zeroValue4
 t9:=Tryz.underlying9
 a9:=Tryz.isAgg9
 z9:=Tryz.sizeOf9
 v9:=Tryz.zeroValue9
 t24:=Tryz.underlying350
 a24:=Tryz.isAgg350
 z24:=Tryz.sizeOf350
 v24:=Tryz.zeroValue350
 i9:=by kernel_rfl}
theorem F6:Lays2.n26 Tryz.prog vO:={
 mixed:=Aab
 f26:=Tryz.func310.trans (congrArg some Aab)
 f33:=Tryz.func312.trans (congrArg some Aab)
 f34:=Tryz.func313.trans (congrArg some Aab)
 f38:=Tryz.func316.trans (congrArg some Aab)
 t0:=Tryz.underlying0
 a0:=Tryz.isAgg0
 z0:=Tryz.sizeOf0
 v0:=Tryz.zeroValue0
 t3:=Tryz.underlying3
 a3:=Tryz.isAgg3
 z3:=Tryz.sizeOf3
 v3:=Tryz.zeroValue3
 t4:=Tryz.underlying4
 a4:=Tryz.isAgg4
 z4:=Tryz.sizeOf4
 v4:=Tryz.zeroValue4
 t9:=Tryz.underlying9
 a9:=Tryz.isAgg9
 z9:=Tryz.sizeOf9
 v9:=Tryz.zeroValue9
 t24:=Tryz.underlying350
 a24:=Tryz.isAgg350
 z24:=Tryz.sizeOf350
 v24:=Tryz.zeroValue350
 t40:=Tryz.underlying220
 a40:=Tryz.isAgg220
 z40:=Tryz.sizeOf220
 v40:=Tryz.zeroValue220}
open Go.RowKit
theorem I7 {w:World} {E:Nat->Addr} (h:iK w E):Calls Tryz.prog 261 #[.nilIface] w λe w'=>e= .returned (.bool false)/\w=w':=by
 have v0:=h.var 1 Aaa;have v1:=h.var 2 Aaa;have v2:=h.var 3 Aaa;have v3:=h.var 4 Aaa;have v4:=h.var 5 Aaa;have HE:=Hq h;clear h;go_in
 go_wp2_with (go_at_call 288;refine(alX _ _).mono ?_;rintro e w1 ⟨rfl,rfl⟩)
 go_ret;exact⟨rfl,rfl⟩
theorem MZ {w:World} {E:Nat->Addr} (h:iK w E) (i:Nat) (hi:(1<=i/\i < 6)):Calls Tryz.prog 261 #[uJ (E i)] w λe w'=>e= .returned (.bool true)/\w=w':=by
 have v0:=h.var 1 Aaa;have v1:=h.var 2 Aaa;have v2:=h.var 3 Aaa;have v3:=h.var 4 Aaa;have v4:=h.var 5 Aaa;have HE:=Hq h;clear h;have h5:i=1\/i=2\/i=3\/i=4\/i=5:=Aaa
 rcases h5 with rfl|rfl|rfl|rfl|rfl
 all_goals
  go_in
  go_wp2_with (go_at_call 288;first|(refine(ajZ HE _ _ true Aaa Aaa Aae).mono ?_;rintro e w1 ⟨rfl,rfl⟩)|(refine(ajZ HE _ _ false Aaa Aaa Aae).mono ?_;rintro e w1 ⟨rfl,rfl⟩))
  go_ret
  exact⟨rfl,rfl⟩
theorem MC (s:ByteArray) (w:World) (hs:s.size<=maxLen):
 Calls Tryz.prog 224 #[.string s] w λe w'=>e= .returned (.int .u32 (65536*(Mth.sums s.data.toList).2+(Mth.sums s.data.toList).1))/\w=w':=by
 unfold maxLen at hs;go_in
 go_wp2
 go_loop [3,4,8] (λa b i=>∃k:Nat,k<=s.size/\i= .int .i64 k/\a= .int .u32 (Mth.sums (s.data.toList.take k)).1/\b= .int .u32 (Mth.sums (s.data.toList.take k)).2) (λ_ _ i=>s.size - (intOf i).toNat)
 case atStart=>exact⟨0,aGB _,rfl,rfl,rfl⟩
 case round=>
  exact azD
theorem NA (s:ByteArray) (w:World) (hs:s.size<=maxLen):
 Calls Tryz.prog 56 #[.string s] w λe w'=>e= .returned (.int .u32 (65536*(Mth.sums s.data.toList).2+(Mth.sums s.data.toList).1))/\w=w':=by
 unfold maxLen at hs;go_in
 go_wp2
 go_loop [3,4,5] (λa b i=>∃k:Nat,k<=s.size/\i= .int .i64 k/\a= .int .i64 (Mth.sums (s.data.toList.take k)).1/\b= .int .i64 (Mth.sums (s.data.toList.take k)).2) (λ_ _ i=>s.size - (intOf i).toNat)
 case atStart=>exact⟨0,aGB _,rfl,rfl,rfl⟩
 case round=>
  exact azD
end Go.Proofs.YtohmklmkjmlpjaaGreatDoor
