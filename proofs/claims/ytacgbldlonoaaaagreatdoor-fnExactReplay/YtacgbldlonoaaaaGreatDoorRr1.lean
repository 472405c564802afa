/- Parts. -/
import Derived.Test.YtacgbldlonoaaaaGreatDoorRrZ6
namespace Go.Proofs.YtacgbldlonoaaaaGreatDoor.Mth
def putF:Nat->Nat->List UInt8
 |0,n=>[UInt8.ofNat n]
 |f+1,n=>if n<=127 then[UInt8.ofNat n] else UInt8.ofNat (128+n % 128)::putF f (n / 128)
def put (n:Nat):List UInt8:=putF 5 n
theorem iZ (f n:Nat) (h:n<=127):putF f n=[UInt8.ofNat n]:=by
 cases f with
 |zero=>rfl
 |succ f=>simp[putF,h]
theorem mE (f n:Nat) (h:¬n<=127):putF (f+1) n=UInt8.ofNat (128+n % 128)::putF f (n / 128):=by
 simp[putF,h]
theorem Nu (f n:Nat):(putF f n).length<=f+1:=by
 induction f generalizing n with
 |zero=>simp[putF]
 |succ f ih=>
  by_cases h:n<=127
  .rw [iZ _ _ h];simp
  .rw [mE _ _ h];have:=ih (n / 128);simp;omega
theorem toNat_byte (n:Nat) (h:n < 256):(UInt8.ofNat n).toNat=n:=by
 simp[UInt8.toNat_ofNat'];omega
theorem put_round (n f cur:Nat) (pre:List UInt8) (hcur:cur < 128 ^ (f+1)) (hbig:¬cur<=127) (hpf:pre.length+f=5) (h:pre++putF f cur=put n):
 ∃f',f=f'+1/\cur / 128 < 128 ^ (f'+1)/\(pre++[UInt8.ofNat (128+cur % 128)]).length+f'=5/\(pre++[UInt8.ofNat (128+cur % 128)])++putF f' (cur / 128)=put n:=by
 cases f with
 |zero=>simp at hcur;omega
 |succ f'=>
  refine⟨f',rfl,?_,Aag,?_⟩
  .rw [Nat.div_lt_iff_lt_mul Aaa];rw [Nat.pow_succ] at hcur;exact hcur
  .rw [mE _ _ hbig] at h;rw [<-h];simp
theorem put_end (n f cur:Nat) (pre:List UInt8) (hs:cur<=127) (h:pre++putF f cur=put n):pre++[UInt8.ofNat cur]=put n:=by
 rw [iZ _ _ hs] at h;exact h
theorem put_length (n:Nat):(put n).length<=6:=Nu 5 n
def sumStep (p:Nat×Nat) (c:UInt8):Nat×Nat:=((p.1+c.toNat) % 65521,(p.2+(p.1+c.toNat) % 65521) % 65521)
def sums (l:List UInt8):Nat×Nat:=l.foldl sumStep (1,0)
theorem sums_snoc (l:List UInt8) (c:UInt8):sums (l++[c])=sumStep (sums l) c:=by simp[sums]
theorem sums_lt (l:List UInt8):(sums l).1 < 65521/\(sums l).2 < 65521:=by
 rcases List.eq_nil_or_concat l with rfl|⟨r,c,rfl⟩
 .simp[sums]
 .rw [List.concat_eq_append,sums_snoc];exact⟨Nat.mod_lt _ Aaa,Nat.mod_lt _ Aaa⟩
theorem take_snoc (s:ByteArray) (k:Nat) (h:k < s.size):s.data.toList.take (k+1)=s.data.toList.take k++[s[k]]:=by
 rw [List.take_succ_eq_append_getElem Abi];rfl
theorem take_all (s:ByteArray) (k:Nat) (h:¬k < s.size):s.data.toList.take k=s.data.toList:=by
 apply List.take_of_length_le
 simp only[Array.length_toList];show s.size<=k
 omega
def keyByte (c:UInt8):Bool:=decide (97<=(c.toNat:Int)/\(c.toNat:Int)<=122)||decide (48<=(c.toNat:Int)/\(c.toNat:Int)<=57)
theorem keyByte_yes (c:UInt8) (h:(97<=(c.toNat:Int)/\(c.toNat:Int)<=122)\/(48<=(c.toNat:Int)/\(c.toNat:Int)<=57)):keyByte c=true:=by
 unfold keyByte;simp;omega
theorem keyByte_no (c:UInt8) (h:(c.toNat:Int) < 48\/(57 < (c.toNat:Int)/\(c.toNat:Int) < 97)\/122 < (c.toNat:Int)):keyByte c=false:=by
 unfold keyByte;simp;omega
theorem byte_cases (c:UInt8):((97<=(c.toNat:Int)/\(c.toNat:Int)<=122)\/(48<=(c.toNat:Int)/\(c.toNat:Int)<=57))\/((c.toNat:Int) < 48\/(57 < (c.toNat:Int)/\(c.toNat:Int) < 97)\/122 < (c.toNat:Int)):=Aaa
def keyOk (l:List UInt8):Bool:=l.all keyByte&&decide (1<=l.length/\l.length<=10)
theorem all_snoc (l:List UInt8) (c:UInt8):(l++[c]).all keyByte=(l.all keyByte&&keyByte c):=Aac
theorem keyOk_bad (l:List UInt8) (k:Nat) (h:(l.take k).all keyByte=false):keyOk l=false:=by
 have:l.all keyByte=false:=by
  rw [List.all_eq_false] at h ⊢;obtain⟨x,hx,hp⟩:=h;exact⟨x,List.mem_of_mem_take hx,hp⟩
 simp[keyOk,this]
theorem keyOk_all (l:List UInt8) (h:l.all keyByte=true):keyOk l=decide (1<=l.length/\l.length<=10):=by simp[keyOk,h]
theorem keyOk_len (l:List UInt8) (h:¬(1<=l.length/\l.length<=10)):keyOk l=false:=by simp[keyOk];intro _;omega
end Go.Proofs.YtacgbldlonoaaaaGreatDoor.Mth
namespace Go.Proofs.YtacgbldlonoaaaaGreatDoor
open Go.RowKit
theorem Hq {p:Prop} (h:p):Hid p:=h
theorem ah {p:Prop} (h:Hid p):p:=h
theorem JN {k:IntKind} {a b:Int} (h:a=b):Ending.returned (.int k a)= .returned (.int k b):=by rw [h]
theorem aD {a b:Bool} (h:a=b):Ending.returned (.bool a)= .returned (.bool b):=by rw [h]
theorem bn (s:ByteArray):s.data.toList.length=s.size:=Aac
theorem jS (s:ByteArray) (h:0 < s.size):s.toList.isEmpty=false:=by
 rw [ByteArray.toList_eq,List.isEmpty_eq_false_iff,<-List.length_pos_iff,bn];exact h
theorem eq_empty (s:ByteArray) (h:s.size=0):s=ByteArray.empty:=by
 apply ByteArray.ext;apply Array.eq_empty_of_size_eq_zero;exact h
theorem Ar {W w1:World} (hb:Below W.heap.size W w1):(∀b o,b < W.heap.size->w1.cell? ⟨b,o,none⟩=W.cell? ⟨b,o,none⟩)/\(∀b o,b < W.heap.size->w1.frozen? ⟨b,o,none⟩=W.frozen? ⟨b,o,none⟩):=
 ⟨λb o h=>hb.cell (p:=⟨b,o,none⟩) h,λb o h=>hb.frozen (p:=⟨b,o,none⟩) h⟩
abbrev aX (w w':World):Prop:=Below w.heap.size w w'
abbrev eP (w:World) (v:Value) (e:Ending) (w':World):Prop:=e= .returned v/\Below w.heap.size w w'
end Go.Proofs.YtacgbldlonoaaaaGreatDoor
namespace Go.Proofs.YtacgbldlonoaaaaGreatDoor.Mth
open Go.Lib (decDigits itoa)
end Go.Proofs.YtacgbldlonoaaaaGreatDoor.Mth
namespace Go.Proofs.YtacgbldlonoaaaaGreatDoor.Mth
def getF:Nat->List UInt8->Nat->Nat->Nat->Option (Nat×Nat)
 |0,_,_,_,_=>none
 |_+1,[],_,_,_=>none
 |f+1,b::r,n,u,j=>if 128<=b.toNat then getF f r (n+b.toNat % 128*u) (u*128) (j+1) else if 4000000000 < n+b.toNat*u\/(b.toNat=0/\0 < j) then none else some (n+b.toNat*u,j+1)
def get (l:List UInt8) (i:Nat):Option (Nat×Nat):=getF 5 (l.drop i) 0 1 0
theorem uW (f n u j:Nat) (b:UInt8) (r:List UInt8) (h:128<=b.toNat):getF (f+1) (b::r) n u j=getF f r (n+b.toNat % 128*u) (u*128) (j+1):=by simp[getF,h]
theorem uw (f n u j:Nat) (b:UInt8) (r:List UInt8) (h:¬128<=b.toNat) (h2:¬(4000000000 < n+b.toNat*u\/(b.toNat=0/\0 < j))):getF (f+1) (b::r) n u j=some (n+b.toNat*u,j+1):=by simp[getF,h,h2]
theorem Dc (f n u j:Nat) (b:UInt8) (r:List UInt8) (h:¬128<=b.toNat) (h2:4000000000 < n+b.toNat*u\/(b.toNat=0/\0 < j)):getF (f+1) (b::r) n u j=none:=by simp[getF,h,h2]
theorem XR (f n u j:Nat):getF f [] n u j=none:=by cases f<;>rfl
theorem drop_cons (s:ByteArray) (k:Nat) (h:k < s.size):s.data.toList.drop k=s[k]::s.data.toList.drop (k+1):=by
 rw [List.drop_eq_getElem_cons Abi];rfl
theorem TA (s:ByteArray) (k:Nat) (h:¬k < s.size):s.data.toList.drop k=[]:=by
 apply List.drop_eq_nil_of_le
 simp only[Array.length_toList];show s.size<=k
 omega
theorem get_more (s:ByteArray) (k j m v:Nat) (G:Option (Nat×Nat)) (hlt:k < s.size) (hj:j < 5) (hb:128<=s[k].toNat) (h:getF (5 - j) (s.data.toList.drop k) m v j=G):
 getF (5 - (j+1)) (s.data.toList.drop (k+1)) (m+s[k].toNat % 128*v) (v*128) (j+1)=G:=by
 obtain⟨f,hf⟩:∃f,5 - j=f+1:=⟨5 - j - 1,Aaa⟩;rw [hf,drop_cons s k hlt,uW _ _ _ _ _ _ hb] at h;rw [<-h];congr 1;omega
theorem get_hit (s:ByteArray) (k j m v:Nat) (G:Option (Nat×Nat)) (hlt:k < s.size) (hj:j < 5) (hb:¬128<=s[k].toNat) (h2:m+s[k].toNat*v<=4000000000) (h3:s[k].toNat≠0\/j=0) (h:getF (5 - j) (s.data.toList.drop k) m v j=G):
 G=some (m+s[k].toNat*v,j+1):=by
 obtain⟨f,hf⟩:∃f,5 - j=f+1:=⟨5 - j - 1,Aaa⟩;rw [hf,drop_cons s k hlt,uw _ _ _ _ _ _ hb Aaa] at h;exact h.symm
theorem get_bad (s:ByteArray) (k j m v:Nat) (G:Option (Nat×Nat)) (hlt:k < s.size) (hj:j < 5) (hb:¬128<=s[k].toNat) (h2:4000000000 < m+s[k].toNat*v\/(s[k].toNat=0/\0 < j)) (h:getF (5 - j) (s.data.toList.drop k) m v j=G):
 G=none:=by
 obtain⟨f,hf⟩:∃f,5 - j=f+1:=⟨5 - j - 1,Aaa⟩;rw [hf,drop_cons s k hlt,Dc _ _ _ _ _ _ hb h2] at h;exact h.symm
theorem get_end (s:ByteArray) (k j m v:Nat) (G:Option (Nat×Nat)) (hlt:¬k < s.size) (h:getF (5 - j) (s.data.toList.drop k) m v j=G):G=none:=by
 rw [TA s k hlt,XR] at h;exact h.symm
theorem get_full (l:List UInt8) (m v:Nat) (G:Option (Nat×Nat)) (h:getF (5 - 5) l m v 5=G):G=none:=by
 simp[getF] at h;exact h.symm
theorem Df (f:Nat):∀(l:List UInt8) (n u j m c:Nat),getF f l n u j=some (m,c)->m<=4000000000/\j < c/\c<=j+f/\c - j<=l.length:=by
 induction f with
 |zero=>intro l n u j m c h;simp[getF] at h
 |succ f ih=>
  intro l n u j m c h
  cases l with
  |nil=>simp[getF] at h
  |cons b r=>
   by_cases hb:128<=b.toNat
   .rw [uW _ _ _ _ _ _ hb] at h;have:=ih _ _ _ _ _ _ h;simp;omega
   .by_cases hx:4000000000 < n+b.toNat*u\/(b.toNat=0/\0 < j)
    .rw [Dc _ _ _ _ _ _ hb hx] at h;cases h
    .rw [uw _ _ _ _ _ _ hb hx] at h;simp at h;simp;omega
theorem get_bound (l:List UInt8) (i m c:Nat) (h:get l i=some (m,c)):m<=4000000000/\0 < c/\c<=5/\i+c<=l.length:=by
 have:=Df 5 _ _ _ _ _ _ h;simp at this;omega
def val:List UInt8->Nat
 |[]=>0
 |b::r=>b.toNat % 128+128*val r
theorem val_snoc (l:List UInt8) (b:UInt8):val (l++[b])=val l+b.toNat % 128*128 ^ l.length:=by
 induction l with
 |nil=>simp[val]
 |cons c r ih=>simp only[List.cons_append,val,ih,List.length_cons,Nat.pow_succ];rw [Nat.mul_add,Nat.add_assoc];congr 2;rw [Nat.mul_comm (128 ^ r.length) 128,Nat.mul_left_comm]
theorem agu (l:List UInt8):val l < 128 ^ l.length:=by
 induction l with
 |nil=>simp[val]
 |cons c r ih=>simp only[val,List.length_cons,Nat.pow_succ];have:=Nat.mod_lt c.toNat (show 0 < 128 by omega);omega
theorem ofNat_toNat (b:UInt8):UInt8.ofNat b.toNat=b:=Aac
theorem putF_val (cs:List UInt8) (b:UInt8) (hb:b.toNat < 128):∀(f:Nat),cs.length<=f->(∀c∈cs,128<=c.toNat)->(b.toNat≠0\/cs=[])->putF f (val (cs++[b]))=cs++[b]:=by
 induction cs with
 |nil=>
  intro f _ _ _
  have e:val ([]++[b])=b.toNat:=by simp[val];omega
  rw [e,iZ _ _ Aaa,ofNat_toNat];rfl
 |cons c r ih=>
  intro f hf hc h0
  have h0':b.toNat≠0:=by simpa using h0
  cases f with
  |zero=>simp at hf
  |succ f=>
   have hcc:128<=c.toNat:=hc c Aac
   have hc2:=c.toNat_lt
   have hpos:0 < val (r++[b]):=by
    rw [val_snoc];have:0 < 128 ^ r.length:=Nat.pow_pos Aaa;have h1:b.toNat % 128=b.toNat:=Nat.mod_eq_of_lt hb;rw [h1];have:=Nat.mul_pos (Nat.pos_of_ne_zero h0') this;omega
   have e:val ((c::r)++[b])=c.toNat % 128+128*val (r++[b]):=rfl
   rw [e,mE _ _ Aaa]
   have e1:(c.toNat % 128+128*val (r++[b])) % 128=c.toNat % 128:=Aaa
   have e2:(c.toNat % 128+128*val (r++[b])) / 128=val (r++[b]):=Aaa
   rw [e1,e2,ih f (by simpa using hf) (λx hx=>hc x Abb) (.inl h0')]
   have e3:128+c.toNat % 128=c.toNat:=Aaa
   rw [e3,ofNat_toNat];rfl
theorem Uv (f:Nat):∀(n:Nat),n < 128 ^ (f+1)->0 < n->∃pre b,putF f n=pre++[b]/\b.toNat≠0:=by
 induction f with
 |zero=>intro n h1 h2;refine⟨[],UInt8.ofNat n,rfl,?_⟩;rw [toNat_byte _ (by simp at h1;omega)];omega
 |succ f ih=>
  intro n h1 h2
  by_cases h:n<=127
  .rw [iZ _ _ h];refine⟨[],UInt8.ofNat n,rfl,?_⟩;rw [toNat_byte _ Aaa];omega
  .obtain⟨pre,b,e,hb⟩:=ih (n / 128) (by rw [Nat.div_lt_iff_lt_mul Aaa];rw [Nat.pow_succ] at h1;exact h1) Aaa;rw [mE _ _ h,e];exact⟨_::pre,b,rfl,hb⟩
theorem putF_nought (cs:List UInt8) (b:UInt8) (h0:b.toNat=0) (hne:cs≠[]) (f:Nat) (hf:cs.length<=f):putF f (val (cs++[b]))≠cs++[b]:=by
 intro e
 have hv:val (cs++[b]) < 128 ^ (f+1):=by
  have h1:=agu (cs++[b]);have h2:128 ^ (cs++[b]).length<=128 ^ (f+1):=Nat.pow_le_pow_right Aaa (by simpa using hf);omega
 rcases Nat.eq_zero_or_pos (val (cs++[b])) with hz|hp
 .rw [hz,iZ _ _ Aaa] at e;have:=congrArg List.length e;simp at this;exact hne this
 .obtain⟨pre,b',e',hb'⟩:=Uv f _ hv hp;rw [e] at e';have:=List.append_inj_right' e' rfl;simp at this;subst this;exact hb' h0
end Go.Proofs.YtacgbldlonoaaaaGreatDoor.Mth
namespace Go.Proofs.YtacgbldlonoaaaaGreatDoor.Mth
theorem Jc (f:Nat):∀(l pre:List UInt8) (n j m c:Nat),pre.length=j->j+f=5->(∀x∈pre,128<=x.toNat)->n=val pre->getF f l n (128 ^ j) j=some (m,c)->put m=pre++l.take (c - j):=by
 induction f with
 |zero=>intro l pre n j m c _ _ _ _ h;simp[getF] at h
 |succ f ih=>
  intro l pre n j m c hl hj hp hn h
  cases l with
  |nil=>simp[getF] at h
  |cons b r=>
   by_cases hb:128<=b.toNat
   .rw [uW _ _ _ _ _ _ hb] at h;have hc:=(Df f _ _ _ _ _ _ h).2.1
    have:=ih r (pre++[b]) (n+b.toNat % 128*128 ^ j) (j+1) m c Aag Aaa (by
     intro x hx
     rcases List.mem_append.1 hx with hx|hx
     .exact hp x hx
     .simp at hx;subst hx;exact hb) (by rw [val_snoc,hl,hn]) (by rw [Nat.pow_succ];exact h)
    rw [this];obtain⟨d,hd⟩:∃d,c - j=d+1:=⟨c - j - 1,Aaa⟩;have hd2:c - (j+1)=d:=Aaa
    rw [hd,hd2];simp
   .by_cases hx:4000000000 < n+b.toNat*128 ^ j\/(b.toNat=0/\0 < j)
    .rw [Dc _ _ _ _ _ _ hb hx] at h;cases h
    .rw [uw _ _ _ _ _ _ hb hx] at h;simp only[Option.some.injEq,Prod.mk.injEq] at h;obtain⟨h1,h2⟩:=h;have e:m=val (pre++[b]):=by rw [val_snoc,hl,<-hn,Nat.mod_eq_of_lt Aaa];exact h1.symm
     have e2:c - j=1:=Aaa
     rw [e,e2]
     have:=putF_val pre b Aaa 5 Aaa hp (by
      by_cases hz:b.toNat=0
      .right
       have:j=0:=Aaa
       exact List.length_eq_zero_iff.1 Aaa
      .exact .inl hz)
     unfold put;rw [this];simp
theorem get_was_put (l:List UInt8) (i m c:Nat) (h:get l i=some (m,c)):put m=(l.drop i).take c:=by
 have:=Jc 5 (l.drop i) [] 0 0 m c rfl rfl Aac rfl (by rw [Nat.pow_zero];exact h);simpa using this
theorem XT (g:Nat):∀(v f n u j:Nat) (y:List UInt8),v < 128 ^ (g+1)->v < 128 ^ f->0 < f->(v≠0\/j=0)->n+v*u<=4000000000->getF f (putF g v++y) n u j=some (n+v*u,j+(putF g v).length):=by
 induction g with
 |zero=>
  intro v f n u j y hv _ hf hz hb
  obtain⟨f',rfl⟩:∃f',f=f'+1:=⟨f - 1,Aaa⟩
  have hv':v<=127:=by simp at hv;omega
  have e:(UInt8.ofNat v).toNat=v:=toNat_byte _ Aaa
  rw [iZ _ _ hv',List.singleton_append,uw _ _ _ _ _ _ Acl Acl,e]
  simp
 |succ g ih=>
  intro v f n u j y hv hvf hf hz hb
  obtain⟨f',rfl⟩:∃f',f=f'+1:=⟨f - 1,Aaa⟩
  by_cases hs:v<=127
  .have e:(UInt8.ofNat v).toNat=v:=toNat_byte _ Aaa;rw [iZ _ _ hs,List.singleton_append,uw _ _ _ _ _ _ Acl Acl,e];simp
  .have e:(UInt8.ofNat (128+v % 128)).toNat=128+v % 128:=toNat_byte _ Aaa;have hm:(128+v % 128) % 128=v % 128:=Aaa
   have hmul:v % 128*u+v / 128*(u*128)=v*u:=by
    have h1:v=128*(v / 128)+v % 128:=Aaa
    conv=>rhs;rw [h1]
    rw [Nat.add_mul,Nat.mul_comm u 128,<-Nat.mul_assoc,Nat.mul_comm (v / 128) 128];omega
   have hf':0 < f':=by
    rcases Nat.eq_zero_or_pos f' with h|h
    .subst h;simp at hvf;omega
    .exact h
   rw [mE _ _ hs,List.cons_append,uW _ _ _ _ _ _ Acl,e,hm];rw [ih (v / 128) f' (n+v % 128*u) (u*128) (j+1) y (by rw [Nat.div_lt_iff_lt_mul Aaa];rw [Nat.pow_succ] at hv;exact hv) (by rw [Nat.div_lt_iff_lt_mul Aaa];rw [Nat.pow_succ] at hvf;exact hvf) hf' (.inl Aaa) Aaa];simp only[List.length_cons,Option.some.injEq,Prod.mk.injEq];omega
end Go.Proofs.YtacgbldlonoaaaaGreatDoor.Mth
