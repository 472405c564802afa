/- Parts. -/
import Derived.Test.YtfachhcijcjbpaaGreatDoorRw1
namespace Go.Proofs.YtfachhcijcjbpaaGreatDoor
open Go.Proofs.Tryz
set_option maxHeartbeats 2000000
namespace GR
open Go.RowKit
section
variable {α:Type} (enc:α->List Value) (sz:Nat)
def flat (l:List α):List Value:=l.flatMap enc
theorem flat_cons (x:α) (r:List α):flat enc (x::r)=enc x++flat enc r:=rfl
theorem flat_append (l r:List α):flat enc (l++r)=flat enc l++flat enc r:=by simp[flat]
theorem flat_one (x:α):flat enc [x]=enc x:=by simp[flat]
theorem flat_length (h:∀x,(enc x).length=sz) (l:List α):(flat enc l).length=l.length*sz:=by
 induction l with
 |nil=>simp[flat]
 |cons x r ih=>rw [flat_cons,aEC,ih,h,aFU,aGt,Nat.one_mul,Nat.add_comm]
theorem flat_at (h:∀x,(enc x).length=sz):∀(l:List α) (i:Nat) (hi:i < l.length) (j:Nat),j < sz->(flat enc l)[i*sz+j]?=(enc l[i])[j]?:=by
 intro l;induction l with
 |nil=>intro i hi;simp at hi
 |cons x r ih=>
  intro i hi j hj;rw [flat_cons];cases i with
  |zero=>
   rw [Nat.zero_mul,aFq,aFO (by rw [h];exact hj)];rfl
  |succ i=>
   have e:(i+1)*sz+j=sz+(i*sz+j):=by rw [aGt,Nat.one_mul];omega
   rw [List.getElem?_append_right (by rw [h];omega),h,e,Nat.add_sub_cancel_left,ih i Aas j hj];rfl
def setRun (xs:List Value) (o:Nat):List Value->List Value
 |[]=>xs
 |v::vs=>setRun (xs.set o v) (o+1) vs
theorem setRun_append_right (a:List Value):∀(vs:List Value) (o:Nat) (b:List Value),setRun (a++b) (a.length+o) vs=a++setRun b o vs:=by
 intro vs;induction vs with
 |nil=>intro o b;rfl
 |cons v vs ih=>
  intro o b;show setRun ((a++b).set (a.length+o) v) (a.length+o+1) vs=a++setRun (b.set o v) (o+1) vs
  rw [aF9 _ _ Aaa,Nat.add_sub_cancel_left,aE5,ih]
theorem setRun_head:∀(vs a b:List Value),vs.length=a.length->setRun (a++b) 0 vs=vs++b:=by
 intro vs;induction vs with
 |nil=>intro a b h;have:a=[]:=aEZ (by simpa using h.symm);subst this;rfl
 |cons v vs ih=>
  intro a b h;cases a with
  |nil=>simp at h
  |cons y a=>
   show setRun (((y::a)++b).set 0 v) (0+1) vs=v::vs++b
   have e:((y::a)++b).set 0 v=[v]++(a++b):=rfl;rw [e,aFq];have h2:=setRun_append_right [v] vs 0 (a++b);simp only[List.length_singleton,aF2] at h2;rw [h2,ih a b Abk];rfl
theorem flat_set (h:∀x,(enc x).length=sz):∀(l:List α) (i:Nat) (x:α),i < l.length->setRun (flat enc l) (i*sz) (enc x)=flat enc (l.set i x):=by
 intro l;induction l with
 |nil=>intro i x hi;simp at hi
 |cons y r ih=>
  intro i x hi;cases i with
  |zero=>
   rw [Nat.zero_mul,flat_cons,setRun_head _ _ _ (by rw [h,h])];rfl
  |succ i=>
   have e:(i+1)*sz=(enc y).length+i*sz:=by rw [h,aGt,Nat.one_mul,Nat.add_comm]
   rw [flat_cons,e,setRun_append_right _,ih i x Aas];rfl
def At (w:World) (a:Option Addr) (l:List α):Prop:=∀i (hi:i < l.length),∃g off,a=some ⟨g,off,none⟩/\g < w.heap.size/\∀j,j < sz->w.cell? ⟨g,off+(i*sz+j),none⟩=(enc l[i])[j]?
theorem At.below {enc:α->List Value} {sz:Nat} {w w':World} {a:Option Addr} {l:List α} (h:At enc sz w a l) (hb:aG w w'):At enc sz w' a l:=λi hi=>by
 obtain⟨g,off,e,hg,hc⟩:=h i hi;exact⟨g,off,e,aEH hg hb.size,λj hj=>(hb.cell (p:=⟨g,off+(i*sz+j),none⟩) hg).trans (hc j hj)⟩
theorem at_nil {w:World} {a:Option Addr}:At enc sz w a []:=λi hi=>by simp at hi
def Blk (t:TypeId) (w:World) (g:Nat) (l:List α):Prop:=w.heap[g]?=some (.cells (flat enc l).toArray t (0,0))
theorem Blk.cell {enc:α->List Value} {sz:Nat} {t:TypeId} {w:World} {g:Nat} {l:List α} (h:Blk enc t w g l) (hs:∀x,(enc x).length=sz) (i:Nat) (hi:i < l.length) (j:Nat) (hj:j < sz):w.cell? ⟨g,i*sz+j,none⟩=(enc l[i])[j]?:=by
 rw [aEz w g _ _ t (0,0) h];simpa using flat_at enc sz hs l i hi j hj
theorem Blk.free {enc:α->List Value} {t:TypeId} {w:World} {g:Nat} {l:List α} (h:Blk enc t w g l) (i:Nat):w.frozen? ⟨g,i,none⟩=false:=by
 unfold World.frozen?;rw [h];simp
theorem Blk.lt {enc:α->List Value} {t:TypeId} {w:World} {g:Nat} {l:List α} (h:Blk enc t w g l):g < w.heap.size:=by
 grind [Blk]
theorem Blk.at {enc:α->List Value} {sz:Nat} {t:TypeId} {w:World} {g:Nat} {l:List α} (h:Blk enc t w g l) (hs:∀x,(enc x).length=sz):At enc sz w (some ⟨g,0,none⟩) l:=λi hi=>
 ⟨g,0,rfl,h.lt,λj hj=>by rw [aFq];exact h.cell hs i hi j hj⟩
def setW (w:World) (g o:Nat):List Value->World
 |[]=>w
 |v::vs=>setW (w.setCell ⟨g,o,none⟩ v) g (o+1) vs
theorem setW_blk:∀(vs:List Value) {w:World} {g o:Nat} {xs:List Value} {t:TypeId},w.heap[g]?=some (.cells xs.toArray t (0,0))->(setW w g o vs).heap[g]?=some (.cells (setRun xs o vs).toArray t (0,0)):=by
 intro vs;induction vs with
 |nil=>intro w g o xs t h;exact h
 |cons v vs ih=>
  intro w g o xs t h;refine ih (xs:=xs.set o v) ?_;exact aja
theorem Blk.set {enc:α->List Value} {sz:Nat} {t:TypeId} {w:World} {g:Nat} {l:List α} (h:Blk enc t w g l) (hs:∀x,(enc x).length=sz) (i:Nat) (hi:i < l.length) (x:α):Blk enc t (setW w g (i*sz) (enc x)) g (l.set i x):=by
 have h2:=setW_blk (enc x) (o:=i*sz) h;rw [flat_set enc sz hs l i x hi] at h2;exact h2
theorem setW_below {B:Nat} {a:World} {g:Nat} (hg:B<=g):∀(vs:List Value) {w:World} {o:Nat},Below B a w->Below B a (setW w g o vs):=by
 intro vs;induction vs with
 |nil=>intro w o h;exact h
 |cons v vs ih=>intro w o h;exact ih (h.setCell (p:=⟨g,o,none⟩) hg v)
theorem setW_other {g g':Nat} (hne:g'≠g):∀(vs:List Value) {w:World} {o:Nat},(setW w g o vs).heap[g']?=w.heap[g']?:=by
 intro vs;induction vs with
 |nil=>intro w o;rfl
 |cons v vs ih=>intro w o;exact(ih (w:=w.setCell ⟨g,o,none⟩ v)).trans (aEU _ _ _ _ hne)
theorem made_flat (h:∀x,(enc x).length=sz) (hz:0 < sz) (x:α) (z:Array Value) (he:z.toList=enc x) (n:Nat):madeCells z (n*sz)=(flat enc (List.replicate n x)).toArray:=by
 have hzs:z.size=sz:=by rw [<-aE9,he,h]
 apply Array.ext_getElem?
 intro k;by_cases hk:k < n*sz
 .have hq:k / sz < n:=Nat.div_lt_of_lt_mul (by rw [aGl];exact hk);have hr:k % sz < sz:=Nat.mod_lt _ hz;have hf:=flat_at enc sz h (List.replicate n x) (k / sz) Abe (k % sz) hr;have ek:k / sz*sz+k % sz=k:=Nat.div_add_mod' k sz;rw [ek] at hf;have h1:(madeCells z (n*sz))[k]?=some (z[k % z.size]!):=by simp[madeCells,hk]
  grind
 .have h1:(madeCells z (n*sz)).size<=k:=by simp[madeCells];omega
  have h2:(flat enc (List.replicate n x)).toArray.size<=k:=by
   rw [aFs,flat_length enc sz h];simp;omega
  grind
theorem own_at {enc:α->List Value} {sz:Nat} {w:World} {base:Nat} {e:TypeId} {v:Value} {l:List α} (hs:∀x,(enc x).length=sz) (h:w.ownsRow base e sz v l.length (flat enc l)):∃a cap,v= .slice a l.length cap/\At enc sz w a l:=by
 rcases h.2 with⟨rfl,hn⟩|⟨g,cap,cur,rfl,hg,hblk,_⟩
 .exact⟨none,0,by rw [hn],λi hi=>Aaa⟩
 .refine⟨_,cap,rfl,λi hi=>⟨g,0,rfl,?_,λj hj=>?_⟩⟩
  .grind
  .have hf:=flat_at enc sz hs l i hi j hj;have hj':j < (enc l[i]).length:=by rw [hs];exact hj
   rw [aEB hj'] at hf ⊢;have:=h.cells rfl (i*sz+j) _ hf;have ea:(⟨g,0,none⟩:Addr).add (i*sz+j)=⟨g,0+(i*sz+j),none⟩:=by unfold Addr.add;split<;>simp_all
   rw [ea] at this;exact this
end
end GR
namespace Mth
structure Pu where
 k:ByteArray
 m:Int
 f:Int
 s:Int
instance:Inhabited Pu:=⟨⟨ByteArray.empty,0,0,0⟩⟩
abbrev fO (p:Pu):List Value:=[.string p.k,.int .i64 p.m,.int .i64 p.f,.int .i64 p.s]
abbrev xO (p:Pu):Value:= .agg #[.string p.k,.int .i64 p.m,.int .i64 p.f,.int .i64 p.s]
theorem aP (p:Pu):(fO p).length=4:=rfl
def sle (a b:ByteArray):Bool:=Op.bytesLess a.toList b.toList||a.toList == b.toList
def qM (n:Int):Bool:=decide (0<=n/\n<=1000000000)
def gZ (p:Pu):Bool:=keyOk p.k.data.toList&&qM p.m&&qM p.f&&qM p.s&&qM (p.f+p.s)
def nU (l:List Pu) (i:Nat):Bool:=gZ (l.getD i default)&&(i == 0|| !sle (l.getD i default).k (l.getD (i - 1) default).k)
def iZ (l:List Pu):Bool:=(List.range l.length).all (nU l)&&decide (l.length<=20)
theorem qc (f:Nat->Bool) (k:Nat):(List.range (k+1)).all f=((List.range k).all f&&f k):=by
 rw [aGm,List.all_append];simp
theorem nV {l:List Pu} {i:Nat} (hi:i < l.length) (h:nU l i=false):iZ l=false:=by
 grind [nU,iZ]
theorem Y8 {l:List Pu} (h:(List.range l.length).all (nU l)=true):iZ l=decide (l.length<=20):=by unfold iZ;rw [h];rfl
def aD (l:List Pu) (k:ByteArray):Pu:=(l.find? λp=>p.k.toList == k.toList).getD ⟨k,0,0,0⟩
theorem J9 (f:Pu->Bool) (l:List Pu) (i:Nat) (hi:i < l.length) (h:(l.take i).find? f=none):(f l[i]=true->l.find? f=some l[i])/\(f l[i]=false->(l.take (i+1)).find? f=none):=by
 exact axD
theorem getD_at (l:List Pu) (i:Nat) (hi:i < l.length):l.getD i default=l[i]:=by rw [aE7,aEB hi];rfl
end Mth
abbrev iK (k:ByteArray) (m f s:Int):Array Value:=#[.string k,.int .i64 m,.int .i64 f,.int .i64 s]
abbrev gB (i t:Int) (k:ByteArray) (n:Int):Array Value:=#[.int .i64 i,.int .i64 t,.string k,.int .i64 n]
abbrev gJ (i:Int) (k:ByteArray) (n s:Int):Array Value:=#[.int .i64 i,.string k,.int .i64 n,.int .i64 s]
open Go.RowKit
def azs (w:World) (g:Nat) (xs:List ByteArray):Prop:=w.heap[g]?=some (.cells (xs.map Value.string).toArray 9 (0,0))
structure Keeps (g:Nat) (w w':World):Prop where
 os:w'.os=w.os
 tape:w'.tape=w.tape
 output:w'.output=w.output
 size:w.heap.size<=w'.heap.size
 block:∀k,k < w.heap.size->k≠g->w'.heap[k]?=w.heap[k]?
theorem Keeps.refl (g:Nat) (w:World):Keeps g w w:=⟨rfl,rfl,rfl,aEx _,λ_ _ _=>rfl⟩
theorem Keeps.trans {g:Nat} {a b c:World} (h:Keeps g a b) (k:Keeps g b c):Keeps g a c:=
 ⟨k.os.trans h.os,k.tape.trans h.tape,k.output.trans h.output,aEA h.size k.size,λi hi hg=>(k.block i (aEH hi h.size) hg).trans (h.block i hi hg)⟩
theorem Keeps.of_below {g:Nat} {w w':World} (h:aG w w'):Keeps g w w':=⟨h.os,h.tape,h.output,h.size,λk hk _=>h.block k hk⟩
theorem Keeps.set {g i:Nat} {w:World} (v:Value):Keeps g w (w.setCell ⟨g,i,none⟩ v):=
 ⟨rfl,rfl,rfl,Aaq,λk _ hg=>aEU _ _ _ _ hg⟩
theorem Keeps.below {g B:Nat} {w w':World} (h:Keeps g w w') (hB:B<=g) (hs:B<=w.heap.size):Below B w w':=⟨h.os,h.tape,h.output,h.size,λk hk=>h.block k Aaa Aaa⟩
namespace Mth
abbrev Oz (a b:Pu):Prop:=a.k.toList < b.k.toList
theorem qg (a b:ByteArray):Op.bytesLess a.toList b.toList=true↔a.toList < b.toList:=by
 rw [bytesLess_eq,aE3]
theorem nK (a b:ByteArray):sle a b=false↔b.toList < a.toList:=by
 unfold sle;rw [bytesLess_eq,Bool.or_eq_false_iff,aGv,aF3];grind
theorem Co {R:Pu->Pu->Prop} (tr:∀a b c,R a b->R b c->R a c):∀(l:List Pu),(∀i (h:i+1 < l.length),R l[i] l[i+1])->l.Pairwise R:=by
 intro l;induction l with
 |nil=>intro _;exact List.Pairwise.nil
 |cons x r ih=>
  intro h;have hr:r.Pairwise R:=ih λi hi=>h (i+1) Aas
  refine List.Pairwise.cons ?_ hr;intro y hy;cases r with
  |nil=>simp at hy
  |cons z s=>
   have hxz:R x z:=h 0 Aac;rcases aET.1 hy with rfl|hy
   .exact hxz
   .exact tr _ _ _ hxz ((aFu.1 hr).1 y hy)
theorem jQ (l:List Pu):iZ l=true↔(∀p∈l,gZ p=true)/\l.Pairwise Oz/\l.length<=20:=by
 unfold iZ;rw [aED,aF0,aE3];constructor
 .rintro⟨h,h20⟩;refine⟨?_,?_,h20⟩
  .intro p hp;obtain⟨i,hi,rfl⟩:=aFE.1 hp;have h1:=h i (aFA.2 hi);grind [nU]
  .refine Co (λa b c (h1:Oz a b) (h2:Oz b c)=>(List.lt_trans h1 h2:Oz a c)) l λi hi=>?_
   have h1:=h (i+1) (aFA.2 hi);grind [nU,nK]
 .rintro⟨h,hp,h20⟩;refine⟨?_,h20⟩;intro i hi;have hi':=aFA.1 hi;unfold nU;rw [aED];grind [nK,List.getD,List.getElem_mem,List.pairwise_iff_getElem]
def vW (l:List Pu) (k:ByteArray):List Pu:=l.takeWhile λq=>Op.bytesLess q.k.toList k.toList
def lG (l:List Pu) (k:ByteArray):List Pu:=l.dropWhile λq=>Op.bytesLess q.k.toList k.toList
def kK (l:List Pu) (k:ByteArray):List Pu:=match lG l k with
 |[]=>[]
 |q::r=>if q.k.toList == k.toList then r else q::r
def iQ (l:List Pu) (p:Pu):List Pu:=vW l p.k++p::kK l p.k
theorem wN (l:List Pu) (k:ByteArray):vW l k++lG l k=l:=aGe
theorem JJ (f:Pu->Bool):∀(l:List Pu) (q:Pu),q∈l.takeWhile f->f q=true:=by
 intro l;induction l with
 |nil=>intro q hq;simp at hq
 |cons x r ih=>
  intro q hq;rw [List.takeWhile_cons] at hq;split at hq
  .rename_i hx
   rcases aET.1 hq with rfl|hq
   .exact hx
   .exact ih q hq
  .simp at hq
theorem Ac {l:List Pu} {k:ByteArray} {q:Pu} (h:q∈vW l k):q.k.toList < k.toList:=(qg _ _).1 (JJ _ l q h)
theorem He (l:List Pu) (k:ByteArray):∀q∈kK l k,q∈lG l k:=by
 intro q hq;unfold kK at hq;split at hq
 .simp at hq
 .rename_i x r e
  rw [e];split at hq
  .exact List.mem_cons_of_mem _ hq
  .exact hq
theorem BR (l:List Pu) (k:ByteArray) (q:Pu) (r:List Pu) (h:lG l k=q::r):¬q.k.toList < k.toList:=by
 grind [lG,qg,List.head?_dropWhile_not]
theorem N9 {l:List Pu} {k:ByteArray} (hp:l.Pairwise Oz):∀q∈kK l k,k.toList < q.k.toList:=by
 have hp2:(lG l k).Pairwise Oz:=hp.sublist (aFL _);unfold kK;cases hf:lG l k with
 |nil=>intro q hq;simp at hq
 |cons x r=>
  have hx:=BR l k x r hf;rw [hf] at hp2;have hr:=(aFu.1 hp2).1;dsimp only;by_cases he:x.k.toList=k.toList
  .grind
  .grind
theorem JI {l:List Pu} {k:ByteArray} (hp:l.Pairwise Oz):(kK l k).Pairwise Oz:=by
 have hp2:(lG l k).Pairwise Oz:=hp.sublist (aFL _);grind [lG,kK]
theorem adh {l:List Pu} (p:Pu) (h:iZ l=true):iZ (iQ l p)=(gZ p&&decide ((iQ l p).length<=20)):=by
 obtain⟨h1,h2,h3⟩:=(jQ l).1 h;apply aFI.2
 rw [jQ,aED,aE3];constructor
 .grind [iQ]
 .rintro⟨g1,g3⟩;refine⟨?_,?_,g3⟩
  .intro q hq;unfold iQ at hq;rcases aE0.1 hq with hq|hq
   .exact h1 q ((aFW _).mem hq)
   .rcases aET.1 hq with rfl|hq
    .exact g1
    .exact h1 q ((aFL _).mem (He l p.k q hq))
  .unfold iQ;rw [List.pairwise_append];refine⟨h2.sublist (aFW _),aFu.2 ⟨λq hq=>N9 h2 q hq,JI h2⟩,?_⟩;intro q hq q' hq';rcases aET.1 hq' with rfl|hq'
   .exact Ac hq
   .exact List.lt_trans (Ac hq) (N9 h2 q' hq')
def rC (l:List Pu) (p:Pu) (n:Int):List Pu×Bool:=
 if iZ l&&decide (1<=n/\n<=1000000000)&&iZ (iQ l p) then(iQ l p,true) else(l,false)
end Mth
set_option maxRecDepth 100000
open Go.RowKit Go.Extern.Stop Go.Stop Go.Extern
structure gX (w:World) (E:Nat->Addr):Prop where
 var:∀i,(1<=i/\i < 6)->w.cell? ⟨i,0,none⟩=some (.iface 409 (.pointer (some (E i))))
 row:∀i,(1<=i/\i < 6)->∃c t,w.heap[(E i).block]?=some (.cells c t (0,0))
 ne:∀i j,(1<=i/\i < 6)->(1<=j/\j < 6)->i≠j->E i≠E j
theorem gX.below {w w':World} {E:Nat->Addr} (h:gX w E) (hb:aG w w'):gX w' E:=by
 refine⟨λi hi=>?_,λi hi=>?_,h.ne⟩
 .rw [hb.cell (p:=⟨i,0,none⟩) (aFC _ _ (h.var i hi))];exact h.var i hi
 .obtain⟨c,t,hc⟩:=h.row i hi;refine⟨c,t,?_⟩;rw [hb.block _ ?_]
  .exact hc
  .rcases aFD (E i).block w.heap.size with h'|h'
   .exact h'
   .rw [aFp h'] at hc;cases hc
abbrev um (a:Addr):Value:= .iface 409 (.pointer (some a))
namespace Is
theorem typeOf (v:Value) (w:World):(Extern.ReflectliteType.typeOf #[.iface 409 v]).run Tryz.prog w= .ok (.iface 377 (.agg #[.pointer (some ⟨6,409,none⟩)])) w:=Aab
def cmp:Array Value->Sem Value:=Extern.ReflectliteType.method λt=>do Extern.Rtype.noPackHeld "Comparable" t;pure (.bool (<-typeInfo t).comparable)
theorem comparable (w:World):(cmp #[.agg #[.pointer (some ⟨6,409,none⟩)]]).run Tryz.prog w= .ok (.bool true) w:=Aab
theorem methodComparable (v:Value) (w:World):(Go.method 538 377 v "Comparable").run Tryz.prog w= .ok (358,v) w:=Aab
theorem comp:(Tryz.prog.info? 409).map (·.comparable)=some true:=Aab
theorem size:(Tryz.prog.info? 427).map (·.size)=some 1:=Aab
theorem noIs (v:Value) (xT:TypeId) (w:World):(Instr.typeAssert (.iface 409 v) xT 404 true).run Tryz.prog w= .ok (.tuple #[.nilIface,.bool false]) w:=run_typeAssert_lacksB Tryz.underlying404 Aab Aab v xT w
theorem noUnwrap (v:Value) (xT:TypeId) (w:World):(Instr.typeAssert (.iface 409 v) xT 385 true).run Tryz.prog w= .ok (.tuple #[.nilIface,.bool false]) w:=run_typeAssert_lacksB Tryz.underlying385 Aab Aab v xT w
theorem noUnwraps (v:Value) (xT:TypeId) (w:World):(Instr.typeAssert (.iface 409 v) xT 387 true).run Tryz.prog w= .ok (.tuple #[.nilIface,.bool false]) w:=run_typeAssert_lacksB Tryz.underlying387 Aab Aab v xT w
end Is
theorem afw (a:Addr) (w:World):Calls Tryz.prog 300 #[um a,um a] w λe w'=>e= .returned (.bool true)/\w=w':=by
 open aqE in exact awz
theorem alm (b:Addr) (w:World):Calls Tryz.prog 300 #[.nilIface,um b] w λe w'=>e= .returned (.bool false)/\w=w':=by
 have hn:=run_eql_iface_nil_left (P:=Tryz.prog) w 409 (.pointer (some b)) Tryz.underlying284;go_in
 go_wp2
 go_ret;exact⟨rfl,rfl⟩
theorem acI (a b:Addr) (ca cb:Array Value) (ta tb:TypeId) (w:World) (hne:a≠b) (ha:w.heap[a.block]?=some (.cells ca ta (0,0))) (hb:w.heap[b.block]?=some (.cells cb tb (0,0))):
 Calls Tryz.prog 300 #[um a,um b] w λe w'=>e= .returned (.bool false)/\w=w':=by
 open aqD in exact awz
theorem ajl {w:World} {E:Nat->Addr} (h:gX w E) (i j:Nat) (b:Bool) (hi:(1<=i/\i < 6)) (hj:(1<=j/\j < 6)) (hb:(i == j)=b):Calls Tryz.prog 300 #[um (E i),um (E j)] w λe w'=>e= .returned (.bool b)/\w=w':=by
 cases b with
 |true=>
  have e:i=j:=by simpa using hb
  subst e;exact afw (E i) w
 |false=>
  obtain⟨c1,t1,h1⟩:=h.row i hi;obtain⟨c2,t2,h2⟩:=h.row j hj;exact acI (E i) (E j) c1 c2 t1 t2 w (h.ne i j hi hj (by simpa using hb)) h1 h2
open Go.Shelf Go.Proofs
def vw:Go.Shelf.Ren:=⟨fun|17=>324|22=>317|29=>320|30=>321|36=>323|26=>316|33=>318|34=>319|38=>322|n=>n,fun|0=>0|3=>3|4=>4|9=>9|24=>26|40=>243|n=>n,λn=>n⟩
theorem uG:Lays2.n22 Tryz.prog vw:={
 mixed:=Aab
 f17:=Tryz.func324.trans (congrArg some Aab)
 f22:=Tryz.func317.trans (congrArg some Aab)
 f29:=Tryz.func320.trans (congrArg some Aab)
 f30:=Tryz.func321.trans (congrArg some Aab)
 f36:=Tryz.func323.trans (congrArg some Aab)
 t0:=Tryz.underlying0
 a0:=Tryz.isAgg0
 z0:=Tryz.sizeOf0
 v0:=Tryz.zeroValue0
 t3:=Tryz.underlying3
 a3:=Tryz.isAgg3
 z3:=Tryz.sizeOf3
 v3:=Tryz.zeroValue3
 t4:=Tryz.underlying4
 a4:=Tryz.isAgg4
 z4:=Tryz.sizeOf4
 v4:=Tryz.zeroValue4
 t9:=Tryz.underlying9
 a9:=Tryz.isAgg9
 z9:=Tryz.sizeOf9
 v9:=Tryz.zeroValue9
 t24:=Tryz.underlying26
 a24:=Tryz.isAgg26
 z24:=Tryz.sizeOf26
 v24:=Tryz.zeroValue26
 i9:=by kernel_rfl}
theorem F5:Lays2.n26 Tryz.prog vw:={
 mixed:=Aab
 f26:=Tryz.func316.trans (congrArg some Aab)
 f33:=Tryz.func318.trans (congrArg some Aab)
 f34:=Tryz.func319.trans (congrArg some Aab)
 f38:=Tryz.func322.trans (congrArg some Aab)
 t0:=Tryz.underlying0
 a0:=Tryz.isAgg0
 z0:=Tryz.sizeOf0
 v0:=Tryz.zeroValue0
 t3:=Tryz.underlying3
 a3:=Tryz.isAgg3
 z3:=Tryz.sizeOf3
 v3:=Tryz.zeroValue3
 t4:=Tryz.underlying4
 a4:=Tryz.isAgg4
 z4:=Tryz.sizeOf4
 v4:=Tryz.zeroValue4
 t9:=Tryz.underlying9
 a9:=Tryz.isAgg9
 z9:=Tryz.sizeOf9
 v9:=Tryz.zeroValue9
 t24:=Tryz.underlying26
 a24:=Tryz.isAgg26
 z24:=Tryz.sizeOf26
 v24:=Tryz.zeroValue26
 t40:=Tryz.underlying243
 a40:=Tryz.isAgg243
 z40:=Tryz.sizeOf243
 v40:=Tryz.zeroValue243}
theorem Jg {w:World} {E:Nat->Addr} (h:gX w E):Calls Tryz.prog 279 #[.nilIface] w λe w'=>e= .returned (.bool false)/\w=w':=by
 have v0:=h.var 1 Aaa;have v1:=h.var 2 Aaa;have v2:=h.var 3 Aaa;have v3:=h.var 4 Aaa;have v4:=h.var 5 Aaa;have HE:=Hq h;clear h;go_in
 go_wp2_with (go_at_call 300;refine(alm _ _).mono ?_;rintro e w1 ⟨rfl,rfl⟩)
 go_ret;exact⟨rfl,rfl⟩
theorem MZ {w:World} {E:Nat->Addr} (h:gX w E) (i:Nat) (hi:(1<=i/\i < 6)):Calls Tryz.prog 279 #[um (E i)] w λe w'=>e= .returned (.bool true)/\w=w':=by
 have v0:=h.var 1 Aaa;have v1:=h.var 2 Aaa;have v2:=h.var 3 Aaa;have v3:=h.var 4 Aaa;have v4:=h.var 5 Aaa;have HE:=Hq h;clear h;have h5:i=1\/i=2\/i=3\/i=4\/i=5:=Aaa
 rcases h5 with rfl|rfl|rfl|rfl|rfl
 all_goals
  go_in
  go_wp2_with (go_at_call 300;first|(refine(ajl HE _ _ true Aaa Aaa Aag).mono ?_;rintro e w1 ⟨rfl,rfl⟩)|(refine(ajl HE _ _ false Aaa Aaa Aag).mono ?_;rintro e w1 ⟨rfl,rfl⟩))
  go_ret
  exact⟨rfl,rfl⟩
end Go.Proofs.YtfachhcijcjbpaaGreatDoor
