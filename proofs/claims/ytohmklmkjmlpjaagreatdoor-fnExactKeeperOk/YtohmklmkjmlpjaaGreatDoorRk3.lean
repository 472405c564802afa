/- Parts. -/
import Derived.Test.YtohmklmkjmlpjaaGreatDoorRk1
namespace Go.Proofs.YtohmklmkjmlpjaaGreatDoor
open Go.Proofs.Tryz
namespace GR
open Go.RowKit
section
variable {α:Type} (enc:α->List Value) (sz:Nat)
def flat (l:List α):List Value:=l.flatMap enc
theorem flat_nil:flat enc []=[]:=rfl
theorem flat_cons (x:α) (r:List α):flat enc (x::r)=enc x++flat enc r:=rfl
theorem flat_append (l r:List α):flat enc (l++r)=flat enc l++flat enc r:=by simp[flat]
theorem flat_one (x:α):flat enc [x]=enc x:=by simp[flat]
theorem flat_length (h:∀x,(enc x).length=sz) (l:List α):(flat enc l).length=l.length*sz:=by
 induction l with
 |nil=>simp[flat]
 |cons x r ih=>rw [flat_cons,List.length_append,ih,h,List.length_cons,Nat.add_mul,Nat.one_mul,Nat.add_comm]
theorem flat_at (h:∀x,(enc x).length=sz):∀(l:List α) (i:Nat) (hi:i < l.length) (j:Nat),j < sz->(flat enc l)[i*sz+j]?=(enc l[i])[j]?:=by
 intro l;induction l with
 |nil=>intro i hi;simp at hi
 |cons x r ih=>
  intro i hi j hj;rw [flat_cons];cases i with
  |zero=>
   rw [Nat.zero_mul,Nat.zero_add,List.getElem?_append_left (by rw [h];exact hj)];rfl
  |succ i=>
   have e:(i+1)*sz+j=sz+(i*sz+j):=by rw [Nat.add_mul,Nat.one_mul];omega
   rw [List.getElem?_append_right (by rw [h];omega),h,e,Nat.add_sub_cancel_left,ih i Aap j hj];rfl
def setRun (xs:List Value) (o:Nat):List Value->List Value
 |[]=>xs
 |v::vs=>setRun (xs.set o v) (o+1) vs
theorem setRun_append_right (a:List Value):∀(vs:List Value) (o:Nat) (b:List Value),setRun (a++b) (a.length+o) vs=a++setRun b o vs:=by
 intro vs;induction vs with
 |nil=>intro o b;rfl
 |cons v vs ih=>
  intro o b;show setRun ((a++b).set (a.length+o) v) (a.length+o+1) vs=a++setRun (b.set o v) (o+1) vs
  rw [List.set_append_right _ _ Aaa,Nat.add_sub_cancel_left,Nat.add_assoc,ih]
theorem setRun_head:∀(vs a b:List Value),vs.length=a.length->setRun (a++b) 0 vs=vs++b:=by
 intro vs;induction vs with
 |nil=>intro a b h;have:a=[]:=List.eq_nil_of_length_eq_zero (by simpa using h.symm);subst this;rfl
 |cons v vs ih=>
  intro a b h;cases a with
  |nil=>simp at h
  |cons y a=>
   show setRun (((y::a)++b).set 0 v) (0+1) vs=v::vs++b
   have e:((y::a)++b).set 0 v=[v]++(a++b):=rfl;rw [e,Nat.zero_add];have h2:=setRun_append_right [v] vs 0 (a++b);simp only[List.length_singleton,Nat.add_zero] at h2;rw [h2,ih a b Abi];rfl
theorem flat_set (h:∀x,(enc x).length=sz):∀(l:List α) (i:Nat) (x:α),i < l.length->setRun (flat enc l) (i*sz) (enc x)=flat enc (l.set i x):=by
 intro l;induction l with
 |nil=>intro i x hi;simp at hi
 |cons y r ih=>
  intro i x hi;cases i with
  |zero=>
   rw [Nat.zero_mul,flat_cons,setRun_head _ _ _ (by rw [h,h])];rfl
  |succ i=>
   have e:(i+1)*sz=(enc y).length+i*sz:=by rw [h,Nat.add_mul,Nat.one_mul,Nat.add_comm]
   rw [flat_cons,e,setRun_append_right _,ih i x Aap];rfl
def At (w:World) (a:Option Addr) (l:List α):Prop:=∀i (hi:i < l.length),∃g off,a=some ⟨g,off,none⟩/\g < w.heap.size/\∀j,j < sz->w.cell? ⟨g,off+(i*sz+j),none⟩=(enc l[i])[j]?
theorem At.below {enc:α->List Value} {sz:Nat} {w w':World} {a:Option Addr} {l:List α} (h:At enc sz w a l) (hb:aI w w'):At enc sz w' a l:=λi hi=>by
 obtain⟨g,off,e,hg,hc⟩:=h i hi;exact⟨g,off,e,Nat.lt_of_lt_of_le hg hb.size,λj hj=>(hb.cell (p:=⟨g,off+(i*sz+j),none⟩) hg).trans (hc j hj)⟩
theorem at_nil {w:World} {a:Option Addr}:At enc sz w a []:=λi hi=>by simp at hi
def Blk (t:TypeId) (w:World) (g:Nat) (l:List α):Prop:=w.heap[g]?=some (.cells (flat enc l).toArray t (0,0))
theorem Blk.cell {enc:α->List Value} {sz:Nat} {t:TypeId} {w:World} {g:Nat} {l:List α} (h:Blk enc t w g l) (hs:∀x,(enc x).length=sz) (i:Nat) (hi:i < l.length) (j:Nat) (hj:j < sz):w.cell? ⟨g,i*sz+j,none⟩=(enc l[i])[j]?:=by
 rw [cell_of_row w g _ _ t (0,0) h];simpa using flat_at enc sz hs l i hi j hj
theorem Blk.free {enc:α->List Value} {t:TypeId} {w:World} {g:Nat} {l:List α} (h:Blk enc t w g l) (i:Nat):w.frozen? ⟨g,i,none⟩=false:=by
 unfold World.frozen?;rw [h];simp
theorem Blk.lt {enc:α->List Value} {t:TypeId} {w:World} {g:Nat} {l:List α} (h:Blk enc t w g l):g < w.heap.size:=by
 rcases Nat.lt_or_ge g w.heap.size with h'|h'
 .exact h'
 .rw [Blk,Array.getElem?_eq_none h'] at h;cases h
theorem Blk.at {enc:α->List Value} {sz:Nat} {t:TypeId} {w:World} {g:Nat} {l:List α} (h:Blk enc t w g l) (hs:∀x,(enc x).length=sz):At enc sz w (some ⟨g,0,none⟩) l:=λi hi=>
 ⟨g,0,rfl,h.lt,λj hj=>by rw [Nat.zero_add];exact h.cell hs i hi j hj⟩
def setW (w:World) (g o:Nat):List Value->World
 |[]=>w
 |v::vs=>setW (w.setCell ⟨g,o,none⟩ v) g (o+1) vs
theorem setW_blk:∀(vs:List Value) {w:World} {g o:Nat} {xs:List Value} {t:TypeId},w.heap[g]?=some (.cells xs.toArray t (0,0))->(setW w g o vs).heap[g]?=some (.cells (setRun xs o vs).toArray t (0,0)):=by
 intro vs;induction vs with
 |nil=>intro w g o xs t h;exact h
 |cons v vs ih=>
  intro w g o xs t h;refine ih (xs:=xs.set o v) ?_;unfold World.setCell;simp only[Array.getElem?_modify];rw [if_pos trivial,h];simp
theorem Blk.set {enc:α->List Value} {sz:Nat} {t:TypeId} {w:World} {g:Nat} {l:List α} (h:Blk enc t w g l) (hs:∀x,(enc x).length=sz) (i:Nat) (hi:i < l.length) (x:α):Blk enc t (setW w g (i*sz) (enc x)) g (l.set i x):=by
 have h2:=setW_blk (enc x) (o:=i*sz) h;rw [flat_set enc sz hs l i x hi] at h2;exact h2
theorem setW_below {B:Nat} {a:World} {g:Nat} (hg:B<=g):∀(vs:List Value) {w:World} {o:Nat},Below B a w->Below B a (setW w g o vs):=by
 intro vs;induction vs with
 |nil=>intro w o h;exact h
 |cons v vs ih=>intro w o h;exact ih (h.setCell (p:=⟨g,o,none⟩) hg v)
theorem setW_other {g g':Nat} (hne:g'≠g):∀(vs:List Value) {w:World} {o:Nat},(setW w g o vs).heap[g']?=w.heap[g']?:=by
 intro vs;induction vs with
 |nil=>intro w o;rfl
 |cons v vs ih=>intro w o;exact(ih (w:=w.setCell ⟨g,o,none⟩ v)).trans (Below.heap_setCell _ _ _ _ hne)
theorem made_flat (h:∀x,(enc x).length=sz) (hz:0 < sz) (x:α) (z:Array Value) (he:z.toList=enc x) (n:Nat):madeCells z (n*sz)=(flat enc (List.replicate n x)).toArray:=by
 have hzs:z.size=sz:=by rw [<-Array.length_toList,he,h]
 apply Array.ext_getElem?
 intro k;by_cases hk:k < n*sz
 .have hq:k / sz < n:=Nat.div_lt_of_lt_mul (by rw [Nat.mul_comm];exact hk);have hr:k % sz < sz:=Nat.mod_lt _ hz;have hf:=flat_at enc sz h (List.replicate n x) (k / sz) Abn (k % sz) hr;have ek:k / sz*sz+k % sz=k:=Nat.div_add_mod' k sz;rw [ek] at hf;have h1:(madeCells z (n*sz))[k]?=some (z[k % z.size]!):=by simp[madeCells,hk]
  rw [h1,hzs]
  have h2:(flat enc (List.replicate n x)).toArray[k]?=(enc x)[k % sz]?:=by
   rw [List.getElem?_toArray,hf];simp
  rw [h2,<-he];have h3:k % sz < z.size:=Aaa
  rw [getElem!_pos z (k % sz) h3,Array.getElem?_toList,Array.getElem?_eq_getElem h3]
 .have h1:(madeCells z (n*sz)).size<=k:=by simp[madeCells];omega
  have h2:(flat enc (List.replicate n x)).toArray.size<=k:=by
   rw [List.size_toArray,flat_length enc sz h];simp;omega
  rw [Array.getElem?_eq_none h1,Array.getElem?_eq_none h2]
theorem own_at {enc:α->List Value} {sz:Nat} {w:World} {base:Nat} {e:TypeId} {v:Value} {l:List α} (hs:∀x,(enc x).length=sz) (h:w.ownsRow base e sz v l.length (flat enc l)):∃a cap,v= .slice a l.length cap/\At enc sz w a l:=by
 rcases h.2 with⟨rfl,hn⟩|⟨g,cap,cur,rfl,hg,hblk,_⟩
 .exact⟨none,0,by rw [hn],λi hi=>Aaa⟩
 .refine⟨_,cap,rfl,λi hi=>⟨g,0,rfl,?_,λj hj=>?_⟩⟩
  .rcases Nat.lt_or_ge g w.heap.size with h'|h'
   .exact h'
   .rw [Array.getElem?_eq_none h'] at hblk;cases hblk
  .have hf:=flat_at enc sz hs l i hi j hj;have hj':j < (enc l[i]).length:=by rw [hs];exact hj
   rw [List.getElem?_eq_getElem hj'] at hf ⊢;have:=h.cells rfl (i*sz+j) _ hf;have ea:(⟨g,0,none⟩:Addr).add (i*sz+j)=⟨g,0+(i*sz+j),none⟩:=by unfold Addr.add;split<;>simp_all
   rw [ea] at this;exact this
end
end GR
open Go.RowKit
def aDk (w:World) (g:Nat) (xs:List ByteArray):Prop:=w.heap[g]?=some (.cells (xs.map Value.string).toArray 9 (0,0))
structure Keeps (g:Nat) (w w':World):Prop where
 os:w'.os=w.os
 tape:w'.tape=w.tape
 output:w'.output=w.output
 size:w.heap.size<=w'.heap.size
 block:∀k,k < w.heap.size->k≠g->w'.heap[k]?=w.heap[k]?
theorem Keeps.refl (g:Nat) (w:World):Keeps g w w:=⟨rfl,rfl,rfl,Nat.le_refl _,λ_ _ _=>rfl⟩
theorem Keeps.trans {g:Nat} {a b c:World} (h:Keeps g a b) (k:Keeps g b c):Keeps g a c:=
 ⟨k.os.trans h.os,k.tape.trans h.tape,k.output.trans h.output,Nat.le_trans h.size k.size,λi hi hg=>(k.block i (Nat.lt_of_lt_of_le hi h.size) hg).trans (h.block i hi hg)⟩
theorem Keeps.of_below {g:Nat} {w w':World} (h:aI w w'):Keeps g w w':=⟨h.os,h.tape,h.output,h.size,λk hk _=>h.block k hk⟩
theorem Keeps.set {g i:Nat} {w:World} (v:Value):Keeps g w (w.setCell ⟨g,i,none⟩ v):=
 ⟨rfl,rfl,rfl,Aar,λk _ hg=>Below.heap_setCell _ _ _ _ hg⟩
theorem Keeps.below {g B:Nat} {w w':World} (h:Keeps g w w') (hB:B<=g) (hs:B<=w.heap.size):Below B w w':=⟨h.os,h.tape,h.output,h.size,λk hk=>h.block k Aaa Aaa⟩
end Go.Proofs.YtohmklmkjmlpjaaGreatDoor
namespace Go.Proofs.YtohmklmkjmlpjaaGreatDoor.Mth
open Go.Proofs.Tryz
open Mth
variable (s:ByteArray) (k j m v:Nat) (G:Option (Nat×Nat))
def getF:Nat->List UInt8->Nat->Nat->Nat->Option (Nat×Nat)
 |0,_,_,_,_=>none
 |_+1,[],_,_,_=>none
 |f+1,b::r,n,u,j=>if 128<=b.toNat then getF f r (n+b.toNat % 128*u) (u*128) (j+1) else if 4000000000 < n+b.toNat*u\/(b.toNat=0/\0 < j) then none else some (n+b.toNat*u,j+1)
def get (l:List UInt8) (i:Nat):Option (Nat×Nat):=getF 5 (l.drop i) 0 1 0
theorem wm (f n u j:Nat) (b:UInt8) (r:List UInt8) (h:128<=b.toNat):getF (f+1) (b::r) n u j=getF f r (n+b.toNat % 128*u) (u*128) (j+1):=by simp[getF,h]
theorem vC (f n u j:Nat) (b:UInt8) (r:List UInt8) (h:¬128<=b.toNat) (h2:¬(4000000000 < n+b.toNat*u\/(b.toNat=0/\0 < j))):getF (f+1) (b::r) n u j=some (n+b.toNat*u,j+1):=by simp[getF,h,h2]
theorem EA (f n u j:Nat) (b:UInt8) (r:List UInt8) (h:¬128<=b.toNat) (h2:4000000000 < n+b.toNat*u\/(b.toNat=0/\0 < j)):getF (f+1) (b::r) n u j=none:=by simp[getF,h,h2]
theorem abL (f n u j:Nat):getF f [] n u j=none:=by cases f<;>rfl
theorem drop_cons (s:ByteArray) (k:Nat) (h:k < s.size):s.data.toList.drop k=s[k]::s.data.toList.drop (k+1):=by
 rw [List.drop_eq_getElem_cons Abi];rfl
theorem Xk (s:ByteArray) (k:Nat) (h:¬k < s.size):s.data.toList.drop k=[]:=by
 apply List.drop_eq_nil_of_le
 simp only[Array.length_toList];show s.size<=k
 omega
theorem get_more (hlt:k < s.size) (hj:j < 5) (hb:128<=s[k].toNat) (h:getF (5 - j) (s.data.toList.drop k) m v j=G):
 getF (5 - (j+1)) (s.data.toList.drop (k+1)) (m+s[k].toNat % 128*v) (v*128) (j+1)=G:=by
 obtain⟨f,hf⟩:∃f,5 - j=f+1:=⟨5 - j - 1,Aaa⟩;rw [hf,drop_cons s k hlt,wm _ _ _ _ _ _ hb] at h;rw [<-h];congr 1;omega
theorem get_hit (hlt:k < s.size) (hj:j < 5) (hb:¬128<=s[k].toNat) (h2:m+s[k].toNat*v<=4000000000) (h3:s[k].toNat≠0\/j=0) (h:getF (5 - j) (s.data.toList.drop k) m v j=G):
 G=some (m+s[k].toNat*v,j+1):=by
 obtain⟨f,hf⟩:∃f,5 - j=f+1:=⟨5 - j - 1,Aaa⟩;rw [hf,drop_cons s k hlt,vC _ _ _ _ _ _ hb Aaa] at h;exact h.symm
theorem get_bad (hlt:k < s.size) (hj:j < 5) (hb:¬128<=s[k].toNat) (h2:4000000000 < m+s[k].toNat*v\/(s[k].toNat=0/\0 < j)) (h:getF (5 - j) (s.data.toList.drop k) m v j=G):
 G=none:=by
 obtain⟨f,hf⟩:∃f,5 - j=f+1:=⟨5 - j - 1,Aaa⟩;rw [hf,drop_cons s k hlt,EA _ _ _ _ _ _ hb h2] at h;exact h.symm
theorem get_end (hlt:¬k < s.size) (h:getF (5 - j) (s.data.toList.drop k) m v j=G):G=none:=by
 rw [Xk s k hlt,abL] at h;exact h.symm
theorem get_full (l:List UInt8) (m v:Nat) (G:Option (Nat×Nat)) (h:getF (5 - 5) l m v 5=G):G=none:=by
 simp[getF] at h;exact h.symm
theorem ED (f:Nat):∀(l:List UInt8) (n u j m c:Nat),getF f l n u j=some (m,c)->m<=4000000000/\j < c/\c<=j+f/\c - j<=l.length:=by
 induction f with
 |zero=>intro l n u j m c h;simp[getF] at h
 |succ f ih=>
  intro l n u j m c h;cases l with
  |nil=>simp[getF] at h
  |cons b r=>
   by_cases hb:128<=b.toNat
   .rw [wm _ _ _ _ _ _ hb] at h;have:=ih _ _ _ _ _ _ h;simp;omega
   .by_cases hx:4000000000 < n+b.toNat*u\/(b.toNat=0/\0 < j)
    .rw [EA _ _ _ _ _ _ hb hx] at h;cases h
    .rw [vC _ _ _ _ _ _ hb hx] at h;simp at h;simp;omega
theorem get_bound (l:List UInt8) (i m c:Nat) (h:get l i=some (m,c)):m<=4000000000/\0 < c/\c<=5/\i+c<=l.length:=by
 have:=ED 5 _ _ _ _ _ _ h;simp at this;omega
def val:List UInt8->Nat
 |[]=>0
 |b::r=>b.toNat % 128+128*val r
theorem val_snoc (l:List UInt8) (b:UInt8):val (l++[b])=val l+b.toNat % 128*128 ^ l.length:=by
 induction l with
 |nil=>simp[val]
 |cons c r ih=>simp only[List.cons_append,val,ih,List.length_cons,Nat.pow_succ];rw [Nat.mul_add,Nat.add_assoc];congr 2;rw [Nat.mul_comm (128 ^ r.length) 128,Nat.mul_left_comm]
theorem ame (l:List UInt8):val l < 128 ^ l.length:=by
 induction l with
 |nil=>simp[val]
 |cons c r ih=>simp only[val,List.length_cons,Nat.pow_succ];have:=Nat.mod_lt c.toNat (show 0 < 128 by omega);omega
theorem ofNat_toNat (b:UInt8):UInt8.ofNat b.toNat=b:=Aac
theorem putF_val (cs:List UInt8) (b:UInt8) (hb:b.toNat < 128):∀(f:Nat),cs.length<=f->(∀c∈cs,128<=c.toNat)->(b.toNat≠0\/cs=[])->putF f (val (cs++[b]))=cs++[b]:=by
 induction cs with
 |nil=>
  intro f _ _ _;have e:val ([]++[b])=b.toNat:=by simp[val];omega
  rw [e,jo _ _ Aaa,ofNat_toNat];rfl
 |cons c r ih=>
  intro f hf hc h0;have h0':b.toNat≠0:=by simpa using h0
  cases f with
  |zero=>simp at hf
  |succ f=>
   have hcc:128<=c.toNat:=hc c Aac;have hc2:=c.toNat_lt
   have hpos:0 < val (r++[b]):=by
    rw [val_snoc];have:0 < 128 ^ r.length:=Nat.pow_pos Aaa;have h1:b.toNat % 128=b.toNat:=Nat.mod_eq_of_lt hb;rw [h1];have:=Nat.mul_pos (Nat.pos_of_ne_zero h0') this;omega
   have e:val ((c::r)++[b])=c.toNat % 128+128*val (r++[b]):=rfl;rw [e,nu _ _ Aaa];have e1:(c.toNat % 128+128*val (r++[b])) % 128=c.toNat % 128:=Aaa
   have e2:(c.toNat % 128+128*val (r++[b])) / 128=val (r++[b]):=Aaa
   rw [e1,e2,ih f Ach (λx hx=>hc x Aaj) (.inl h0')];have e3:128+c.toNat % 128=c.toNat:=Aaa
   rw [e3,ofNat_toNat];rfl
theorem Yj (f:Nat):∀(n:Nat),n < 128 ^ (f+1)->0 < n->∃pre b,putF f n=pre++[b]/\b.toNat≠0:=by
 induction f with
 |zero=>intro n h1 h2;refine⟨[],UInt8.ofNat n,rfl,?_⟩;rw [toNat_byte _ (by simp at h1;omega)];omega
 |succ f ih=>
  intro n h1 h2;by_cases h:n<=127
  .rw [jo _ _ h];refine⟨[],UInt8.ofNat n,rfl,?_⟩;rw [toNat_byte _ Aaa];omega
  .obtain⟨pre,b,e,hb⟩:=ih (n / 128) (by rw [Nat.div_lt_iff_lt_mul Aaa];rw [Nat.pow_succ] at h1;exact h1) Aaa;rw [nu _ _ h,e];exact⟨_::pre,b,rfl,hb⟩
theorem putF_nought (cs:List UInt8) (b:UInt8) (h0:b.toNat=0) (hne:cs≠[]) (f:Nat) (hf:cs.length<=f):putF f (val (cs++[b]))≠cs++[b]:=by
 intro e
 have hv:val (cs++[b]) < 128 ^ (f+1):=by
  have h1:=ame (cs++[b]);have h2:128 ^ (cs++[b]).length<=128 ^ (f+1):=Nat.pow_le_pow_right Aaa Ach;omega
 rcases Nat.eq_zero_or_pos (val (cs++[b])) with hz|hp
 .rw [hz,jo _ _ Aaa] at e;have:=congrArg List.length e;simp at this;exact hne this
 .obtain⟨pre,b',e',hb'⟩:=Yj f _ hv hp;rw [e] at e';have:=List.append_inj_right' e' rfl;simp at this;subst this;exact hb' h0
end Go.Proofs.YtohmklmkjmlpjaaGreatDoor.Mth
namespace Go.Proofs.YtohmklmkjmlpjaaGreatDoor.Mth
open Go.Proofs.Tryz
theorem KG (f:Nat):∀(l pre:List UInt8) (n j m c:Nat),pre.length=j->j+f=5->(∀x∈pre,128<=x.toNat)->n=val pre->getF f l n (128 ^ j) j=some (m,c)->put m=pre++l.take (c - j):=by
 induction f with
 |zero=>intro l pre n j m c _ _ _ _ h;simp[getF] at h
 |succ f ih=>
  intro l pre n j m c hl hj hp hn h;cases l with
  |nil=>simp[getF] at h
  |cons b r=>
   by_cases hb:128<=b.toNat
   .rw [wm _ _ _ _ _ _ hb] at h;have hc:=(ED f _ _ _ _ _ _ h).2.1
    have:=ih r (pre++[b]) (n+b.toNat % 128*128 ^ j) (j+1) m c Aag Aaa (by
     intro x hx
     rcases List.mem_append.1 hx with hx|hx
     .exact hp x hx
     .simp at hx;subst hx;exact hb) (by rw [val_snoc,hl,hn]) (by rw [Nat.pow_succ];exact h)
    rw [this];obtain⟨d,hd⟩:∃d,c - j=d+1:=⟨c - j - 1,Aaa⟩;have hd2:c - (j+1)=d:=Aaa
    rw [hd,hd2];simp
   .by_cases hx:4000000000 < n+b.toNat*128 ^ j\/(b.toNat=0/\0 < j)
    .rw [EA _ _ _ _ _ _ hb hx] at h;cases h
    .rw [vC _ _ _ _ _ _ hb hx] at h;simp only[Option.some.injEq,Prod.mk.injEq] at h;obtain⟨h1,h2⟩:=h;have e:m=val (pre++[b]):=by rw [val_snoc,hl,<-hn,Nat.mod_eq_of_lt Aaa];exact h1.symm
     have e2:c - j=1:=Aaa
     rw [e,e2]
     have:=putF_val pre b Aaa 5 Aaa hp (by
      by_cases hz:b.toNat=0
      .right
       have:j=0:=Aaa
       exact List.length_eq_zero_iff.1 Aaa
      .exact .inl hz)
     unfold put;rw [this];simp
theorem get_was_put (l:List UInt8) (i m c:Nat) (h:get l i=some (m,c)):put m=(l.drop i).take c:=by
 have:=KG 5 (l.drop i) [] 0 0 m c rfl rfl Aac rfl (by rw [Nat.pow_zero];exact h);simpa using this
theorem abM (g:Nat):∀(v f n u j:Nat) (y:List UInt8),v < 128 ^ (g+1)->v < 128 ^ f->0 < f->(v≠0\/j=0)->n+v*u<=4000000000->getF f (putF g v++y) n u j=some (n+v*u,j+(putF g v).length):=by
 induction g with
 |zero=>
  intro v f n u j y hv _ hf hz hb;obtain⟨f',rfl⟩:∃f',f=f'+1:=⟨f - 1,Aaa⟩;have hv':v<=127:=by simp at hv;omega
  have e:(UInt8.ofNat v).toNat=v:=toNat_byte _ Aaa;rw [jo _ _ hv',List.singleton_append,vC _ _ _ _ _ _ Aci Aci,e];simp
 |succ g ih=>
  intro v f n u j y hv hvf hf hz hb;obtain⟨f',rfl⟩:∃f',f=f'+1:=⟨f - 1,Aaa⟩;by_cases hs:v<=127
  .have e:(UInt8.ofNat v).toNat=v:=toNat_byte _ Aaa;rw [jo _ _ hs,List.singleton_append,vC _ _ _ _ _ _ Aci Aci,e];simp
  .have e:(UInt8.ofNat (128+v % 128)).toNat=128+v % 128:=toNat_byte _ Aaa;have hm:(128+v % 128) % 128=v % 128:=Aaa
   have hmul:v % 128*u+v / 128*(u*128)=v*u:=by
    have h1:v=128*(v / 128)+v % 128:=Aaa
    conv=>rhs;rw [h1]
    rw [Nat.add_mul,Nat.mul_comm u 128,<-Nat.mul_assoc,Nat.mul_comm (v / 128) 128];omega
   have hf':0 < f':=by
    rcases Nat.eq_zero_or_pos f' with h|h
    .subst h;simp at hvf;omega
    .exact h
   rw [nu _ _ hs,List.cons_append,wm _ _ _ _ _ _ Aci,e,hm];rw [ih (v / 128) f' (n+v % 128*u) (u*128) (j+1) y (by rw [Nat.div_lt_iff_lt_mul Aaa];rw [Nat.pow_succ] at hv;exact hv) (by rw [Nat.div_lt_iff_lt_mul Aaa];rw [Nat.pow_succ] at hvf;exact hvf) hf' (.inl Aaa) Aaa];simp only[List.length_cons,Option.some.injEq,Prod.mk.injEq];omega
end Go.Proofs.YtohmklmkjmlpjaaGreatDoor.Mth
namespace Go.Proofs.YtohmklmkjmlpjaaGreatDoor
open Go.Proofs.Tryz
set_option maxHeartbeats 4000000
set_option maxRecDepth 100000
open Go.RowKit
open Mth
variable {G:Option (Nat×Nat)} {i:Int}
theorem yu (i:Int) (w:World):Calls prog 252 #[.int .i64 i] w λe w'=>e= .returned (.iface 272 (.agg #[.iface 274 (.agg #[.int .i64 i])]))/\w=w':=by
 go_in
 go_wp2
 go_ret;exact⟨rfl,rfl⟩
def rD (o:Option (Nat×Nat)) (i:Int):Value:=
 match o with
 |none=> .tuple #[.int .i64 0,.int .i64 0,.iface 272 (.agg #[.iface 274 (.agg #[.int .i64 i])])]
 |some (n,c)=> .tuple #[.int .i64 n,.int .i64 (i+c),.nilIface]
theorem Yc (s:ByteArray) (i:Int) (w:World) (h:i < 0):Calls prog 251 #[.string s,.int .i64 i] w λe w'=>e= .returned (rD none i)/\w=w':=by
 go_in
 go_wp2_with (go_at_call 252;refine(yu _ _).mono ?_;rintro e w' ⟨rfl,rfl⟩)
 go_ret3
 exact⟨rfl,rfl⟩
def qp (j u:Nat):Prop:=(j=0/\u=1)\/(j=1/\u=128)\/(j=2/\u=16384)\/(j=3/\u=2097152)\/(j=4/\u=268435456)\/(j=5/\u=34359738368)
theorem Qw {a b:Int} {n c:Nat} (hG:G=some (n,c)) (ha:a=n) (hb:b=i+c):Ending.returned (.tuple #[.int .i64 a,.int .i64 b,.nilIface])= .returned (rD G i):=by
 subst hG;subst ha;subst hb;rfl
theorem ac8 (hG:G=none):Ending.returned (.tuple #[.int .i64 0,.int .i64 0,.iface 272 (.agg #[.iface 274 (.agg #[.int .i64 i])])])= .returned (rD G i):=by
 subst hG;rfl
theorem Ws {j u:Nat} (h:qp j u):1<=u/\(j < 5->u<=268435456)/\(j < 5->qp (j+1) (u*128))/\(¬j < 5->j=5/\4000000000 < u):=by
 unfold qp at *;rcases h with⟨rfl,rfl⟩|⟨rfl,rfl⟩|⟨rfl,rfl⟩|⟨rfl,rfl⟩|⟨rfl,rfl⟩|⟨rfl,rfl⟩<;>simp
theorem afv (b v:Nat):0<=(b:Int) % 128*(v:Int)/\(b:Int) % 128*(v:Int)<=127*(v:Int):=by
 have h1:0<=(b:Int) % 128:=Aaa
 have h2:(b:Int) % 128<=127:=Aaa
 exact⟨Int.mul_nonneg h1 Aaa,Int.mul_le_mul_of_nonneg_right h2 Aaa⟩
theorem LW (b v:Nat) (hb:¬128<=b):(b:Int) % 128*(v:Int)=((b*v:Nat):Int):=by
 rw [Int.emod_eq_of_lt Aaa Aaa];simp
theorem Qj (m b v:Nat) (hb:¬128<=b) (h:(4000000000:Int) < (m:Int)+(b:Int) % 128*(v:Int)):4000000000 < m+b*v:=by
 rw [LW b v hb] at h;generalize b*v=x at *;omega
theorem yx (m b v:Nat) (hb:¬128<=b) (h:¬(4000000000:Int) < (m:Int)+(b:Int) % 128*(v:Int)):m+b*v<=4000000000:=by
 rw [LW b v hb] at h;generalize b*v=x at *;omega
theorem JG (m b v:Nat) (h:m < v):m+b % 128*v < v*128:=by
 have h1:b % 128<=127:=Aaa
 have h2:=Nat.mul_le_mul_right v h1;omega
theorem Ql (m b v:Nat) (hb:¬128<=b):(m:Int)+(b:Int) % 128*(v:Int)=((m+b*v:Nat):Int):=by
 rw [LW b v hb];generalize b*v=x;omega
theorem Qk (m b v:Nat) (hb:(b:Int)<=0):(m:Int)=((m+b*v:Nat):Int):=by
 have:b=0:=Aaa
 subst this;simp
theorem aCU (s:ByteArray) (i:Nat) (w:World) (hs:s.size<=maxLen):Calls prog 251 #[.string s,.int .i64 i] w λe w'=>e= .returned (rD (Mth.get s.data.toList i) i)/\w=w':=by
 unfold maxLen at hs;have h0:decide ((i:Int) < 0)=false:=Aac
 go_in
 go_wp2
 go_loop [7,8,9] (λn u a=>∃j m v k:Nat,qp j v/\m < v/\n= .int .i64 m/\u= .int .i64 v/\a= .int .i64 k/\k=i+j/\Mth.getF (5 - j) (s.data.toList.drop k) m v j=Mth.get s.data.toList i) (λ_ _ a=>s.size - (intOf a).toNat)
 case atStart=>exact⟨0,0,1,i,.inl ⟨rfl,rfl⟩,Aaa,rfl,rfl,rfl,rfl,rfl⟩
 case round=>
  obtain⟨j,m,v,k,hu,hm,rfl,rfl,rfl,hk,hget⟩:=hrel;have HG:=Hq hget;have HK:=Hq hk;clear hget hk;obtain⟨hv1,hv2,hu2,hv5⟩:=Ws hu;by_cases hlt:k < s.size
  .by_cases hj:j < 5
   .open auC in exact agE
   .obtain⟨rfl,aCl⟩:=hv5 hj;have HR:=Hq (Mth.get_full _ _ _ _ HG);clear hv2 hu2 hv5 hu;exact aeC
  .have HR:=Hq (Mth.get_end s k _ m _ _ hlt HG);clear hv2 hu2 hv5 hu;exact aeC
open Go.RowKit Go.Extern.Stop Go.Stop Go.Extern
theorem ala (t:Value) (w:World):
 Calls prog 253 #[.nilIface,t] w λe w'=>e= .returned (.bool false)/\w=w':=by
 go_in
 go_wp2
 go_ret;exact⟨rfl,rfl⟩
namespace As
theorem valueOfPtr (t:Addr) (w:World):(ReflectliteValue.unpack (.iface 276 (.pointer (some t)))).run Tryz.prog w
 = .ok (.agg #[.pointer (some ⟨6,276,none⟩),.pointer (some ⟨w.heap.size,0,none⟩),.int .u64 150]) (w.alloc (.cells #[.pointer (some t)] 276)):=Aab
theorem typePtr (a:Addr) (w:World):(ReflectliteValue.methodAny (ReflectliteValue.valueError "reflectlite.Value.Type" 0) (λt _ _ _=>ReflectliteType.toType t) #[.agg #[.pointer (some ⟨6,276,none⟩),.pointer (some a),.int .u64 150]]).run Tryz.prog w
 = .ok (.iface 330 (.agg #[.pointer (some ⟨6,276,none⟩)])) w:=Aab
theorem methodKind (h:Value) (w:World):(Go.method 501 330 (.agg #[h]) "Kind").run Tryz.prog w= .ok (333,h) w:=Aab
theorem methodElem (h:Value) (w:World):(Go.method 501 330 (.agg #[h]) "Elem").run Tryz.prog w= .ok (351,.agg #[h]) w:=Aab
theorem methodImplements (h:Value) (w:World):(Go.method 501 330 (.agg #[h]) "Implements").run Tryz.prog w= .ok (352,.agg #[h]) w:=Aab
theorem methodAssignableTo (h:Value) (w:World):(Go.method 501 330 (.agg #[h]) "AssignableTo").run Tryz.prog w= .ok (349,.agg #[h]) w:=Aab
theorem methodUnwrap (h:Value) (w:World):(Go.method 501 272 (.agg #[h]) "Unwrap").run Tryz.prog w= .ok (339,.agg #[h]) w:=Aab
theorem kindPtr (w:World):((ReflectliteType.abiMethod λt=>(λa:Nat=>Value.int IntKind.u8 (a:Int)) <$> Rtype.kind t) #[.pointer (some ⟨6,276,none⟩)]).run Tryz.prog w= .ok (.int .u8 22) w:=Aab
theorem kindStruct (w:World):((ReflectliteType.abiMethod λt=>(λa:Nat=>Value.int IntKind.u8 (a:Int)) <$> Rtype.kind t) #[.pointer (some ⟨6,274,none⟩)]).run Tryz.prog w= .ok (.int .u8 25) w:=Aab
theorem rlm (z:Sem Value) (f:TypeId->Addr->Nat->Nat->Sem Value) (v:Value):
 ReflectliteValue.method z f #[v]=(do match<-ReflectliteValue.parts v with|none=>z|some (t,a,fl)=>f t a fl (fl % 32)):=rfl
theorem Qm (a:Addr) (w:World):(ReflectliteValue.parts (.agg #[.pointer (some ⟨6,276,none⟩),.pointer (some a),.int .u64 150])).run Tryz.prog w= .ok (some (276,a,150)) w:=Aab
theorem isNil (a p:Addr) (W:World) (ha:W.cell? a=some (.pointer (some p))):
 (ReflectliteValue.method (ReflectliteValue.valueError "reflectlite.Value.IsNil" 0) ReflectliteValue.isNil #[.agg #[.pointer (some ⟨6,276,none⟩),.pointer (some a),.int .u64 150]]).run Tryz.prog W= .ok (.bool false) W:=by
 rw [rlm];simp only[Sem.run_bind,Qm,Result.andThen];simp[ReflectliteValue.isNil,loadVar,isAgg,underlying,Tryz.underlying276,ha,Result.andThen]
theorem elemType (w:World):(ReflectliteType.method ReflectliteType.elem #[.agg #[.pointer (some ⟨6,276,none⟩)]]).run Tryz.prog w= .ok (.iface 330 (.agg #[.pointer (some ⟨6,274,none⟩)])) w:=Aab
theorem implements (w:World):(ReflectliteType.relation "Implements" ReflectliteType.implements_ #[.agg #[.pointer (some ⟨6,274,none⟩)],.iface 330 (.agg #[.pointer (some ⟨6,242,none⟩)])]).run Tryz.prog w= .ok (.bool true) w:=Aab
theorem typeOfNo (v:Value) (w:World):(ReflectliteType.typeOf #[.iface 274 v]).run Tryz.prog w= .ok (.iface 330 (.agg #[.pointer (some ⟨6,274,none⟩)])) w:=Aab
theorem typeOfUnread (v:Value) (w:World):(ReflectliteType.typeOf #[.iface 272 v]).run Tryz.prog w= .ok (.iface 330 (.agg #[.pointer (some ⟨6,272,none⟩)])) w:=Aab
theorem assignNo (w:World):(ReflectliteType.relation "AssignableTo" ReflectliteType.assignableTo #[.agg #[.pointer (some ⟨6,274,none⟩)],.iface 330 (.agg #[.pointer (some ⟨6,274,none⟩)])]).run Tryz.prog w= .ok (.bool true) w:=Aab
theorem assignUnread (w:World):(ReflectliteType.relation "AssignableTo" ReflectliteType.assignableTo #[.agg #[.pointer (some ⟨6,272,none⟩)],.iface 330 (.agg #[.pointer (some ⟨6,274,none⟩)])]).run Tryz.prog w= .ok (.bool false) w:=Aab
theorem valueOfNo (p:Int) (w:World):(ReflectliteValue.unpack (.iface 274 (.agg #[.int .i64 p]))).run Tryz.prog w
 = .ok (.agg #[.pointer (some ⟨6,274,none⟩),.pointer (some ⟨w.heap.size,0,none⟩),.int .u64 153]) (w.alloc (.cells #[.int .i64 p] 274)):=Aab
theorem elemOf (w:World):(Rtype.elem? 276).run Tryz.prog w= .ok (some 274) w:=Aab
theorem aGl (p:Addr) (w:World):(ReflectliteValue.mk 274 p ReflectliteValue.flagAddr).run Tryz.prog w= .ok (.agg #[.pointer (some ⟨6,274,none⟩),.pointer (some p),.int .u64 409]) w:=Aab
theorem elemV (a p:Addr) (W:World) (ha:W.cell? a=some (.pointer (some p))):
 (ReflectliteValue.method (ReflectliteValue.valueError "reflectlite.Value.Elem" 0) ReflectliteValue.elem #[.agg #[.pointer (some ⟨6,276,none⟩),.pointer (some a),.int .u64 150]]).run Tryz.prog W
  = .ok (.agg #[.pointer (some ⟨6,274,none⟩),.pointer (some p),.int .u64 409]) W:=by
 rw [rlm];simp only[Sem.run_bind,Qm,Result.andThen];simp[ReflectliteValue.elem,loadVar,isAgg,underlying,Tryz.underlying276,ha,Result.andThen,elemOf,aGl]
theorem acZ (a:Addr) (w:World):(ReflectliteValue.parts (.agg #[.pointer (some ⟨6,274,none⟩),.pointer (some a),.int .u64 409])).run Tryz.prog w= .ok (some (274,a,409)) w:=Aab
theorem afx (a:Addr) (w:World):(ReflectliteValue.parts (.agg #[.pointer (some ⟨6,274,none⟩),.pointer (some a),.int .u64 153])).run Tryz.prog w= .ok (some (274,a,153)) w:=Aab
theorem abw (w:World):(Rtype.directlyAssignable 274 274).run Tryz.prog w= .ok true w:=Aab
end As
open Go.RowKit Go.Extern.Stop Go.Stop Go.Extern
namespace As
theorem rls (v x:Value):ReflectliteValue.set #[v,x]=(do
 let(some (dst,a,fl),some (src,b,_)):=(<-ReflectliteValue.parts v,<-ReflectliteValue.parts x)
  |unsupported (.noEntry "extern/(internal/reflectlite.Value).Set.zeroValue")
 if fl / ReflectliteValue.flagAddr % 2 == 0 then unsupported (.noEntry "extern/(internal/reflectlite.Value).Set.unaddressable")
 let val<-loadVar src b
 if<-Rtype.directlyAssignable dst src then storeVar dst a val
 else if<-Rtype.implements dst src then
  if (<-Rtype.kind src) == 20 then
   match val with
   | .nilIface=>unsupported (.noEntry "extern/reflectlite: a nil value of one interface type handed on as a value of another")
   |_=>storeVar dst a val
  else storeVar dst a (.iface src val)
 else panicString ("reflectlite.Set: value of type " ++(<-Rtype.spelt src)++ " is not assignable to type " ++(<-Rtype.spelt dst))
 pure (.tuple #[])):=rfl
theorem setNo (ta b:Addr) (p:Int) (old:Value) (W:World) (hb:W.cell? b=some (.int .i64 p)) (ht:W.cell? ta=some old) (hf:W.frozen? ta=false):
 (ReflectliteValue.set #[.agg #[.pointer (some ⟨6,274,none⟩),.pointer (some ta),.int .u64 409],.agg #[.pointer (some ⟨6,274,none⟩),.pointer (some b),.int .u64 153]]).run Tryz.prog W
  = .ok (.tuple #[]) (W.setCell ta (.int .i64 p)):=by
 rw [rls];simp only[Sem.run_bind,acZ,afx,Result.andThen]
 have hl:(loadCells b 1).run Tryz.prog W= .ok #[.int .i64 p] W:=run_loadCells_list W b [.int .i64 p] (λj v hj=>by
  match j,hj with
  |0,hj=>simp at hj;subst hj;simpa [Addr.add] using hb)
 simp[ReflectliteValue.flagAddr,loadVar,isAgg,underlying,Tryz.underlying274,hl,Result.andThen,abw,storeVar,Value.cells,storeCells,Addr.add];rw [run_store Tryz.prog W ta _ _ Aad];simp[ht,hf]
end As
set_option maxHeartbeats 2000000
set_option maxRecDepth 100000
open Go.RowKit Go.Extern.Stop Go.Stop Go.Extern
namespace As
theorem noAs (v:Value) (xT:TypeId) (w:World):(Instr.typeAssert (.iface 272 v) xT 335 true).run Tryz.prog w= .ok (.tuple #[.nilIface,.bool false]) w:=run_typeAssert_lacksB Tryz.underlying335 Aab Aab v xT w
theorem hasUnwrap (v:Value) (xT:TypeId) (w:World):(Instr.typeAssert (.iface 272 v) xT 338 true).run Tryz.prog w= .ok (.tuple #[.iface 272 v,.bool true]) w:=run_typeAssert_hasB Tryz.underlying338 Aab v xT w
def no (p:Int):Value:= .iface 274 (.agg #[.int .i64 p])
def un (e:Value):Value:= .iface 272 (.agg #[e])
end As
theorem World.lt_of_cell {w:World} {a:Addr} {v:Value} (h:w.cell? a=some v):a.block < w.heap.size:=by
 rcases Nat.lt_or_ge a.block w.heap.size with h'|h'
 .exact h'
 .simp[World.cell?,Array.getElem?_eq_none h'] at h
theorem alb (p:Int) (tg:Value) (t a:Addr) (old:Value) (w:World) (ha:w.cell? a=some (.pointer (some t))) (ht:w.cell? t=some old) (hf:w.frozen? t=false):
 Calls Tryz.prog 273 #[.iface 272 (.agg #[.iface 274 (.agg #[.int .i64 p])]),tg,.agg #[.pointer (some ⟨6,276,none⟩),.pointer (some a),.int .u64 150],.iface 330 (.agg #[.pointer (some ⟨6,274,none⟩)])] w
  λe w'=>e= .returned (.bool true)/\Below t.block w w':=by
 open aow in exact aAs
theorem alc (p:Int) (tg:Value) (t a:Addr) (old:Value) (w:World) (ha:w.cell? a=some (.pointer (some t))) (ht:w.cell? t=some old) (hf:w.frozen? t=false):
 Calls Tryz.prog 273 #[.iface 272 (.agg #[.iface 272 (.agg #[.iface 274 (.agg #[.int .i64 p])])]),tg,.agg #[.pointer (some ⟨6,276,none⟩),.pointer (some a),.int .u64 150],.iface 330 (.agg #[.pointer (some ⟨6,274,none⟩)])] w
  λe w'=>e= .returned (.bool true)/\Below t.block w w':=by
 open aov in exact aAs
set_option maxHeartbeats 2000000
set_option maxRecDepth 100000
open Go.RowKit Go.Extern.Stop Go.Stop Go.Extern
theorem OZ (err:Value) (tb:Nat) (old:Value) (w:World) (hne:∃v,err= .iface 272 v) (has:∀(tg:Value) (t a:Addr) (old:Value) (w:World),w.cell? a=some (.pointer (some t))->w.cell? t=some old->w.frozen? t=false->
  Calls Tryz.prog 273 #[err,tg,.agg #[.pointer (some ⟨6,276,none⟩),.pointer (some a),.int .u64 150],.iface 330 (.agg #[.pointer (some ⟨6,274,none⟩)])] w λe w'=>e= .returned (.bool true)/\Below t.block w w') (hg:w.cell? ⟨0,0,none⟩=some (.iface 330 (.agg #[.pointer (some ⟨6,242,none⟩)]))) (ht:w.cell? ⟨tb,0,none⟩=some old) (hf:w.frozen? ⟨tb,0,none⟩=false):
 Calls Tryz.prog 253 #[err,.iface 276 (.pointer (some ⟨tb,0,none⟩))] w λe w'=>e= .returned (.bool true)/\Below tb w w':=by
 obtain⟨v,rfl⟩:=hne;have HAS:=Hq has;clear has;open azR in exact ah8
def Handle (w:World):Prop:=w.cell? ⟨0,0,none⟩=some (.iface 330 (.agg #[.pointer (some ⟨6,242,none⟩)]))
theorem Handle.below {w w':World} (h:Handle w) (hb:aI w w'):Handle w':=by
 have hl:=World.lt_of_cell h;unfold Handle;rw [hb.cell (p:=⟨0,0,none⟩) hl];exact h
theorem PZ (w:World):Calls Tryz.prog 223 #[.nilIface] w (eO w (.bool false)):=by
 go_in
 go_wp2_with (go_at_call 253;refine(ala _ _).mono ?_;rintro e w' ⟨rfl,rfl⟩)
 go_ret;exact⟨rfl,(Below.refl _ _).alloc (Nat.le_refl _) _⟩
theorem P5 (p:Int) (w:World) (h:Handle w):Calls Tryz.prog 223 #[.iface 272 (.agg #[.iface 274 (.agg #[.int .i64 p])])] w (eO w (.bool true)):=by
 open azE in exact ah7
theorem acv (p:Int) (w:World) (h:Handle w):Calls Tryz.prog 223 #[.iface 272 (.agg #[.iface 272 (.agg #[.iface 274 (.agg #[.int .i64 p])])])] w (eO w (.bool true)):=by
 open azD in exact ah7
set_option maxHeartbeats 400000
open Go.RowKit
theorem K8 (s:ByteArray) (w:World) (hs:s.size<=maxLen):
 Calls Tryz.prog 224 #[.string s] w λe w'=>e= .returned (.int .u32 (65536*(Mth.sums s.data.toList).2+(Mth.sums s.data.toList).1))/\w=w':=by
 unfold maxLen at hs;go_in
 go_wp2
 go_loop [3,4,8] (λa b i=>∃k:Nat,k<=s.size/\i= .int .i64 k/\a= .int .u32 (Mth.sums (s.data.toList.take k)).1/\b= .int .u32 (Mth.sums (s.data.toList.take k)).2) (λ_ _ i=>s.size - (intOf i).toNat)
 case atStart=>exact⟨0,Nat.zero_le _,rfl,rfl,rfl⟩
 case round=>
  exact aBw
theorem Ml (s:ByteArray) (w:World) (hs:s.size<=maxLen):
 Calls Tryz.prog 56 #[.string s] w λe w'=>e= .returned (.int .u32 (65536*(Mth.sums s.data.toList).2+(Mth.sums s.data.toList).1))/\w=w':=by
 unfold maxLen at hs;go_in
 go_wp2
 go_loop [3,4,5] (λa b i=>∃k:Nat,k<=s.size/\i= .int .i64 k/\a= .int .i64 (Mth.sums (s.data.toList.take k)).1/\b= .int .i64 (Mth.sums (s.data.toList.take k)).2) (λ_ _ i=>s.size - (intOf i).toNat)
 case atStart=>exact⟨0,Nat.zero_le _,rfl,rfl,rfl⟩
 case round=>
  exact aBw
abbrev muL:Go.Conc.Locks.MuLink:={lock:=70,unlock:=71,ilock:=126,iunlock:=127,lockSlow:=159,unlockSlow:=162,disable:=155,enable:=157,acquire:=158,relMerge:=160,cas32:=156,add32:=161,tMutex:=130,tIMutex:=128,tPMutex:=181,tPIMutex:=203,tPI32:=205,tUP:=207,tNoCopy:=126,tU32:=104}
theorem aj8:Go.Conc.Locks.MuLib Tryz.prog muL where
 f_lock:=Tryz.func70.trans Aab
 f_unlock:=Tryz.func71.trans Aab
 f_ilock:=Tryz.func126.trans Aab
 f_iunlock:=Tryz.func127.trans Aab
 f_disable:=Tryz.func155.trans Aab
 f_enable:=Tryz.func157.trans Aab
 f_acquire:=Tryz.func158.trans Aab
 f_relMerge:=Tryz.func160.trans Aab
 f_cas32:=Tryz.func156.trans Aab
 f_add32:=Tryz.func161.trans Aab
 underlying_tIMutex:=Aab
 runUnderlying_tIMutex:=λ_=>by kernel_rfl
 sizeOf_tIMutex:=λ_=>by kernel_rfl
 isAgg_tIMutex:=λ_=>by kernel_rfl
 zeroValue_tIMutex:=λ_=>by kernel_rfl
 underlying_tMutex:=Aab
 runUnderlying_tMutex:=λ_=>by kernel_rfl
 sizeOf_tMutex:=λ_=>by kernel_rfl
 isAgg_tMutex:=λ_=>by kernel_rfl
 zeroValue_tMutex:=λ_=>by kernel_rfl
 underlying_tPMutex:=Aab
 runUnderlying_tPMutex:=λ_=>by kernel_rfl
 sizeOf_tPMutex:=λ_=>by kernel_rfl
 isAgg_tPMutex:=λ_=>by kernel_rfl
 zeroValue_tPMutex:=λ_=>by kernel_rfl
 underlying_tPIMutex:=Aab
 runUnderlying_tPIMutex:=λ_=>by kernel_rfl
 sizeOf_tPIMutex:=λ_=>by kernel_rfl
 isAgg_tPIMutex:=λ_=>by kernel_rfl
 zeroValue_tPIMutex:=λ_=>by kernel_rfl
 underlying_tPI32:=Aab
 runUnderlying_tPI32:=λ_=>by kernel_rfl
 sizeOf_tPI32:=λ_=>by kernel_rfl
 isAgg_tPI32:=λ_=>by kernel_rfl
 zeroValue_tPI32:=λ_=>by kernel_rfl
 underlying_tUP:=Aab
 runUnderlying_tUP:=λ_=>by kernel_rfl
 sizeOf_tUP:=λ_=>by kernel_rfl
 isAgg_tUP:=λ_=>by kernel_rfl
 zeroValue_tUP:=λ_=>by kernel_rfl
 underlying_tNoCopy:=Aab
 runUnderlying_tNoCopy:=λ_=>by kernel_rfl
 sizeOf_tNoCopy:=λ_=>by kernel_rfl
 isAgg_tNoCopy:=λ_=>by kernel_rfl
 zeroValue_tNoCopy:=λ_=>by kernel_rfl
 underlying_t21:=Aab
 runUnderlying_t21:=λ_=>by kernel_rfl
 sizeOf_t21:=λ_=>by kernel_rfl
 isAgg_t21:=λ_=>by kernel_rfl
 zeroValue_t21:=λ_=>by kernel_rfl
 room_tIMutex:=Aab
end Go.Proofs.YtohmklmkjmlpjaaGreatDoor
