/- Parts. -/
import Derived.Test.YtohmklmkjmlpjaaGreatDoorRk3
import Derived.Test.YtohmklmkjmlpjaaGreatDoorRk2
namespace Go.Proofs.YtohmklmkjmlpjaaGreatDoor
open Go.Proofs.Tryz
namespace Mth
structure jK where
 i:Int
 t:Int
 k:ByteArray
 n:Int
structure Sn where
 f:Int
 l:Int
 ids:List Int
structure Rq where
 no:Int
 k:ByteArray
 n:Int
 s:Int
structure Nd where
 id:Int
 par:Int
 kids:List Int
 next:Int
 pu:List Pu
 out:List jK
 seen:List Sn
 old:Int
 reqs:List Rq
instance:Inhabited jK:=⟨⟨0,0,ByteArray.empty,0⟩⟩
instance:Inhabited Sn:=⟨⟨0,0,[]⟩⟩
instance:Inhabited Rq:=⟨⟨0,ByteArray.empty,0,0⟩⟩
abbrev aU (x:Int):List Value:=[.int .i64 x]
abbrev aS (s:jK):List Value:=[.int .i64 s.i,.int .i64 s.t,.string s.k,.int .i64 s.n]
abbrev aL (r:Rq):List Value:=[.int .i64 r.no,.string r.k,.int .i64 r.n,.int .i64 r.s]
theorem aQ (x:Int):(aU x).length=1:=rfl
theorem bH (x:jK):(aS x).length=4:=rfl
theorem aR (x:Rq):(aL x).length=4:=rfl
def gU {α:Type} (p:α->Bool) (r:α->α->Bool):List α->Bool
 |[]=>true
 |[x]=>p x
 |x::y::l=>p x&&r x y&&gU p r (y::l)
section
variable {α:Type} (p:α->Bool) (r:α->α->Bool)
theorem nH (x:α) (l:List α):gU p r (x::l)=(p x&&(match l.head? with|none=>true|some y=>r x y)&&gU p r l):=by
 cases l with
 |nil=>simp[gU]
 |cons y l=>simp[gU]
theorem OD (l:List α) (x:α):gU p r (l++[x])=(gU p r l&&(p x&&(match l.getLast? with|none=>true|some y=>r y x))):=by
 induction l with
 |nil=>simp[gU]
 |cons y l ih=>
  rw [List.cons_append,nH,ih,nH];cases l with
  |nil=>simp[gU,Bool.and_comm,Bool.and_left_comm]
  |cons z l=>simp[Bool.and_assoc]
theorem Sj (l m:List α):gU p r (l++m)=true->gU p r l=true:=by
 induction l with
 |nil=>simp[gU]
 |cons y l ih=>
  intro h;rw [List.cons_append,nH] at h;rw [nH];simp only[Bool.and_eq_true] at h ⊢;refine⟨⟨h.1.1,?_⟩,ih h.2⟩;cases l with
  |nil=>simp
  |cons z l=>simpa using h.1.2
theorem rC (l:List α) (h:0 < l.length):gU p r (l.take 1)=p l[0]:=by
 match l,h with
 |x::l,_=>simp[gU]
theorem uX (l:List α) (k:Nat) (h:k+1 < l.length):gU p r (l.take (k+2))=(gU p r (l.take (k+1))&&(p l[k+1]&&r l[k] l[k+1])):=by
 rw [List.take_succ_eq_append_getElem h,OD]
 have e:(l.take (k+1)).getLast?=some l[k]:=by
  rw [List.take_succ_eq_append_getElem Aaa,List.getLast?_append];simp
 rw [e]
theorem oD (l:List α) (k:Nat) (h:gU p r (l.take k)=false):gU p r l=false:=by
 cases hc:gU p r l with
 |false=>rfl
 |true=>
  rw [<-List.take_append_drop k l] at hc;rw [Sj p r _ _ hc] at h;cases h
end
def jX (id par x:Int):Bool:=tY x&&decide (x≠id)&&decide (x≠par)
def iM (x y:Int):Bool:=decide (x < y)
def eD (n:Nd):Bool:=tY n.id&&decide (-1<=n.par/\n.par<=29)&&decide (n.par≠n.id)&&decide (n.kids.length<=30)&&gU (jX n.id n.par) iM n.kids
def hasB (l:List Int) (x:Int):Bool:=l.any λy=>decide (y=x)
def dZ (n:Nd) (x:Int):Bool:=(decide (0<=x)&&decide (x=n.par))||hasB n.kids x
def Bh (low x:Int):Bool:=decide (low<=x/\x<=1000000000)
def uU (s:Sn):Bool:=fF s.l&&decide (s.ids.length<=40)&&gU (Bh s.l) iM s.ids
def nQ (n:Nd):Bool:=decide ((n.seen.length:Int)=n.kids.length+(if 0<=n.par then 1 else 0))&&gU (λs=>dZ n s.f&&uU s) (λs t=>iM s.f t.f) n.seen
def uQ (n:Nd) (o:jK):Bool:=decide (1<=o.i/\o.i<=n.next - 1)&&dZ n o.t&&keyOk o.k.data.toList&&fF o.n
def rU (n:Nd) (q:Rq):Bool:=decide (n.old+1<=q.no/\q.no<=1000000000)&&keyOk q.k.data.toList&&fF q.n&&decide (0<=q.s/\q.s<=2)
def rJ (n:Nd):Bool:=decide (n.out.length<=40)&&gU (uQ n) (λs t=>iM s.i t.i) n.out
def gX (n:Nd):Bool:=qw n.old&&decide (n.reqs.length<=30)&&gU (rU n) (λs t=>iM s.no t.no) n.reqs
def dW (n:Nd):Bool:=eD n&&jk n.pu&&nQ n&&fF n.next&&rJ n&&gX n
end Mth
namespace Mth
def xu {α:Type} (key:α->Int) (y0:Int) (l:List α):Int:=(l.getLast?.map key).getD y0
theorem tV {α:Type} (key:α->Int) (y0:Int) (l:List α) (k:Nat) (h:k < l.length):xu key y0 (l.take (k+1))=key l[k]:=by
 unfold xu;rw [List.take_succ_eq_append_getElem h,List.getLast?_append];simp
theorem ze {α:Type} (p:α->Bool) (key:α->Int) (y0:Int) (hp:∀x,p x=true->y0 < key x) (l:List α) (k:Nat) (h:k < l.length):
 gU p (λs t=>iM (key s) (key t)) (l.take (k+1))=(gU p (λs t=>iM (key s) (key t)) (l.take k)&&(p l[k]&&decide (xu key y0 (l.take k) < key l[k]))):=by
 rw [List.take_succ_eq_append_getElem h,OD];unfold xu;cases hg:(l.take k).getLast? with
 |none=>
  cases hx:p l[k] with
  |false=>simp
  |true=>simp[hp _ hx]
 |some y=>simp[iM]
theorem zf {α:Type} {p:α->Bool} {r:α->α->Bool} {l:List α} (h:gU p r l=true):∀x∈l,p x=true:=by
 induction l with
 |nil=>intro x hx;simp at hx
 |cons y l ih=>
  rw [nH] at h;simp only[Bool.and_eq_true] at h;intro x hx;rcases List.mem_cons.1 hx with rfl|hx
  .exact h.1.1
  .exact ih h.2 x hx
theorem AR {α:Type} {p:α->Bool} {r:α->α->Bool} {key:α->Int} {y0:Int} {l:List α} (hp:∀x,p x=true->y0 < key x) (h:gU p r l=true):y0<=xu key y0 l:=by
 unfold xu;cases hg:l.getLast? with
 |none=>simp
 |some y=>
  have:=hp y (zf h y (List.mem_of_getLast? hg));simp;omega
theorem tF {α:Type} {p:α->Bool} {r:α->α->Bool} (ht:∀a b c,r a b=true->r b c=true->r a c=true) {l:List α}:gU p r l=true↔(∀x∈l,p x=true)/\l.Pairwise (λa b=>r a b=true):=by
 induction l with
 |nil=>simp[gU]
 |cons x l ih=>
  rw [nH];simp only[Bool.and_eq_true,ih,List.pairwise_cons,List.mem_cons,forall_eq_or_imp];constructor
  .rintro⟨⟨h1,h2⟩,h3,h4⟩;refine⟨⟨h1,h3⟩,?_,h4⟩;cases l with
   |nil=>intro a ha;simp at ha
   |cons y l=>
    simp only[List.head?_cons] at h2;intro a ha;rcases List.mem_cons.1 ha with rfl|ha
    .exact h2
    .exact ht x y a h2 ((List.pairwise_cons.1 h4).1 a ha)
  .rintro⟨⟨h1,h3⟩,h2,h4⟩;refine⟨⟨h1,?_⟩,h3,h4⟩;cases l with
   |nil=>simp
   |cons y l=>exact h2 y Aac
theorem ad6 {α:Type} {p q:α->Bool} {r:α->α->Bool} {l:List α}:gU (λx=>p x&&q x) r l=(gU p r l&&l.all q):=by
 induction l with
 |nil=>simp[gU]
 |cons x l ih=>
  rw [nH,ih,nH,List.all_cons];generalize p x=a;generalize q x=b;generalize gU p r l=d;generalize l.all q=e;cases a<;>cases b<;>cases d<;>cases e<;>simp
theorem aaN:∀(B A:List Int),A.Pairwise (· < ·)->B.Pairwise (· < ·)->(∀x∈A,x∈B)->A.length<=B.length:=by
 intro B;induction B with
 |nil=>
  intro A _ _ hs;cases A with
  |nil=>simp
  |cons a A=>exact absurd (hs a Aac) Aac
 |cons b B ih=>
  intro A hA hB hs;cases A with
  |nil=>simp
  |cons a A=>
   have hA':=List.pairwise_cons.1 hA;have hB':=List.pairwise_cons.1 hB;by_cases hab:a=b
   .subst hab
    have:=ih A hA'.2 hB'.2 (λx hx=>by
     rcases List.mem_cons.1 (hs x (List.mem_cons_of_mem _ hx)) with h|h
     .have:=hA'.1 x hx;omega
     .exact h)
    simp;omega
   .have haB:a∈B:=by
     exact aip
    have hba:=hB'.1 a haB
    have:=ih (a::A) hA hB'.2 (λx hx=>by
     rcases List.mem_cons.1 (hs x hx) with h|h
     .exact aiw
     .exact h)
    simp at this ⊢;omega
theorem aj3:∀(B A:List Int),A.Pairwise (· < ·)->B.Pairwise (· < ·)->(∀x∈A,x∈B)->B.length<=A.length->A=B:=by
 intro B;induction B with
 |nil=>
  intro A _ _ hs _;cases A with
  |nil=>rfl
  |cons a A=>exact absurd (hs a Aac) Aac
 |cons b B ih=>
  intro A hA hB hs hl;cases A with
  |nil=>simp at hl
  |cons a A=>
   have hA':=List.pairwise_cons.1 hA;have hB':=List.pairwise_cons.1 hB;by_cases hab:a=b
   .subst hab
    rw [ih A hA'.2 hB'.2 (λx hx=>by
     rcases List.mem_cons.1 (hs x (List.mem_cons_of_mem _ hx)) with h|h
     .have:=hA'.1 x hx;omega
     .exact h) (by simpa using hl)]
   .have haB:a∈B:=by
     exact aip
    have hba:=hB'.1 a haB
    have:=aaN B (a::A) hA hB'.2 (λx hx=>by
     rcases List.mem_cons.1 (hs x hx) with h|h
     .exact aiw
     .exact h)
    simp at this hl;omega
def qy (n:Nd):List Int:=n.kids++(if n.par= -1 then[] else[n.par])
def Yi (l:List Int):List Int:=l.mergeSort λx y=>decide (x<=y)
theorem qh (l:List Int):(Yi l).length=l.length:=List.length_mergeSort l
theorem MH (l:List Int) (x:Int):x∈Yi l↔x∈l:=(List.mergeSort_perm l _).mem_iff
theorem ae4 {l:List Int} (h:l.Nodup):(Yi l).Pairwise (· < ·):=by
 have h1:(Yi l).Pairwise (λx y=>decide (x<=y)=true):=List.pairwise_mergeSort (le:=λx y:Int=>decide (x<=y)) (λa b c h1 h2=>by simp at *;omega) (λa b=>Aag) l;have h2:(Yi l).Nodup:=(List.mergeSort_perm l _).symm.nodup h;exact(h1.and h2).imp (λ{a b} h=>by have:=of_decide_eq_true h.1;have:=h.2;omega)
theorem zo (l:List Int) (x:Int):hasB l x=true↔x∈l:=by
 unfold hasB;rw [List.any_eq_true];constructor
 .rintro⟨y,hy,h⟩;have:=of_decide_eq_true h;subst this;exact hy
 .intro h;exact⟨x,h,Aac⟩
theorem mJ (a b c:Int) (h1:iM a b=true) (h2:iM b c=true):iM a c=true:=by
 unfold iM at *;simp at *;omega
theorem pY {n:Nd} (h:eD n=true):(∀x∈n.kids,jX n.id n.par x=true)/\n.kids.Pairwise (· < ·)/\ -1<=n.par:=by
 unfold eD at h;simp only[Bool.and_eq_true] at h;obtain⟨h1,h2⟩:=(tF (r:=iM) mJ).1 h.2;exact⟨h1,h2.imp (λ{a b} h=>of_decide_eq_true h),(of_decide_eq_true h.1.1.1.2).1⟩
theorem TG {n:Nd} (h:eD n=true):(qy n).Nodup:=by
 obtain⟨h1,h2,_⟩:=pY h;have h3:n.kids.Nodup:=h2.imp (λ{a b} h=>Aaa);unfold qy;split
 .simpa using h3
 .rw [List.nodup_append];refine⟨h3,Aac,?_⟩;intro a ha b hb;have hb':b=n.par:=by simpa using hb
  have:=h1 a ha;unfold jX at this;simp only[Bool.and_eq_true,decide_eq_true_eq] at this;rw [hb'];exact this.2
theorem EY {n:Nd} (h:eD n=true) (x:Int):dZ n x=true↔x∈qy n:=by
 obtain⟨h1,_,h3⟩:=pY h;unfold dZ qy;rw [Bool.or_eq_true,zo,List.mem_append];constructor
 .rintro(h|h)
  .simp only[Bool.and_eq_true,decide_eq_true_eq] at h;right
   rw [if_neg Aaa];simp[h.2]
  .exact .inl h
 .rintro(h|h)
  .exact .inr h
  .left
   split at h
   .simp at h
   .have:x=n.par:=Abc
    exact aaz
theorem vH {n:Nd} (h:eD n=true):((qy n).length:Int)=n.kids.length+(if 0<=n.par then 1 else 0):=by
 obtain⟨_,_,h3⟩:=pY h;unfold qy;by_cases hp:n.par= -1
 .rw [if_pos hp,if_neg Aaa];simp
 .rw [if_neg hp,if_pos Aaa];simp
theorem wI {n:Nd} (hp:eD n=true):nQ n=(decide (n.seen.map (·.f)=Yi (qy n))&&n.seen.all uU):=by
 have hnd:=TG hp;have hsr:=ae4 hnd;unfold nQ;rw [ad6,<-vH hp,<-Bool.and_assoc];congr 1
 rw [Bool.eq_iff_iff,Bool.and_eq_true,decide_eq_true_iff,decide_eq_true_iff,tF (λa b c h1 h2=>mJ a.f b.f c.f h1 h2)];constructor
 .rintro⟨h1,h2,h3⟩;refine aj3 _ _ ?_ hsr ?_ ?_
  .rw [List.pairwise_map];exact h3.imp (λ{a b} h=>of_decide_eq_true h)
  .intro x hx;obtain⟨s,hs,rfl⟩:=List.mem_map.1 hx;rw [MH];exact(EY hp _).1 (h2 s hs)
  .rw [qh,List.length_map];omega
 .intro h;refine⟨?_,?_,?_⟩
  .have:=congrArg List.length h;rw [qh,List.length_map] at this;omega
  .intro s hs;rw [EY hp,<-MH,<-h];exact List.mem_map.2 ⟨s,hs,rfl⟩
  .rw [<-h,List.pairwise_map] at hsr;exact hsr.imp (λ{a b} h=>decide_eq_true h)
end Mth
end Go.Proofs.YtohmklmkjmlpjaaGreatDoor
namespace Go.Proofs.YtohmklmkjmlpjaaGreatDoor.Mth
open Go.Proofs.Tryz
open Mth
variable (s:ByteArray) (k j m v:Nat) (G:Option (Nat×Nat))
def getF:Nat->List UInt8->Nat->Nat->Nat->Option (Nat×Nat)
 |0,_,_,_,_=>none
 |_+1,[],_,_,_=>none
 |f+1,b::r,n,u,j=>if 128<=b.toNat then getF f r (n+b.toNat % 128*u) (u*128) (j+1) else if 4000000000 < n+b.toNat*u\/(b.toNat=0/\0 < j) then none else some (n+b.toNat*u,j+1)
def get (l:List UInt8) (i:Nat):Option (Nat×Nat):=getF 5 (l.drop i) 0 1 0
theorem vX (f n u j:Nat) (b:UInt8) (r:List UInt8) (h:128<=b.toNat):getF (f+1) (b::r) n u j=getF f r (n+b.toNat % 128*u) (u*128) (j+1):=by simp[getF,h]
theorem vw (f n u j:Nat) (b:UInt8) (r:List UInt8) (h:¬128<=b.toNat) (h2:¬(4000000000 < n+b.toNat*u\/(b.toNat=0/\0 < j))):getF (f+1) (b::r) n u j=some (n+b.toNat*u,j+1):=by simp[getF,h,h2]
theorem Er (f n u j:Nat) (b:UInt8) (r:List UInt8) (h:¬128<=b.toNat) (h2:4000000000 < n+b.toNat*u\/(b.toNat=0/\0 < j)):getF (f+1) (b::r) n u j=none:=by simp[getF,h,h2]
theorem aa9 (f n u j:Nat):getF f [] n u j=none:=by cases f<;>rfl
theorem drop_cons (s:ByteArray) (k:Nat) (h:k < s.size):s.data.toList.drop k=s[k]::s.data.toList.drop (k+1):=by
 rw [List.drop_eq_getElem_cons Abc];rfl
theorem WH (s:ByteArray) (k:Nat) (h:¬k < s.size):s.data.toList.drop k=[]:=by
 apply List.drop_eq_nil_of_le
 simp only[Array.length_toList];show s.size<=k
 omega
theorem get_more (hlt:k < s.size) (hj:j < 5) (hb:128<=s[k].toNat) (h:getF (5 - j) (s.data.toList.drop k) m v j=G):
 getF (5 - (j+1)) (s.data.toList.drop (k+1)) (m+s[k].toNat % 128*v) (v*128) (j+1)=G:=by
 obtain⟨f,hf⟩:∃f,5 - j=f+1:=⟨5 - j - 1,Aaa⟩;rw [hf,drop_cons s k hlt,vX _ _ _ _ _ _ hb] at h;rw [<-h];congr 1;omega
theorem get_hit (hlt:k < s.size) (hj:j < 5) (hb:¬128<=s[k].toNat) (h2:m+s[k].toNat*v<=4000000000) (h3:s[k].toNat≠0\/j=0) (h:getF (5 - j) (s.data.toList.drop k) m v j=G):
 G=some (m+s[k].toNat*v,j+1):=by
 obtain⟨f,hf⟩:∃f,5 - j=f+1:=⟨5 - j - 1,Aaa⟩;rw [hf,drop_cons s k hlt,vw _ _ _ _ _ _ hb Aaa] at h;exact h.symm
theorem get_bad (hlt:k < s.size) (hj:j < 5) (hb:¬128<=s[k].toNat) (h2:4000000000 < m+s[k].toNat*v\/(s[k].toNat=0/\0 < j)) (h:getF (5 - j) (s.data.toList.drop k) m v j=G):
 G=none:=by
 obtain⟨f,hf⟩:∃f,5 - j=f+1:=⟨5 - j - 1,Aaa⟩;rw [hf,drop_cons s k hlt,Er _ _ _ _ _ _ hb h2] at h;exact h.symm
theorem get_end (hlt:¬k < s.size) (h:getF (5 - j) (s.data.toList.drop k) m v j=G):G=none:=by
 rw [WH s k hlt,aa9] at h;exact h.symm
theorem get_full (l:List UInt8) (m v:Nat) (G:Option (Nat×Nat)) (h:getF (5 - 5) l m v 5=G):G=none:=by
 simp[getF] at h;exact h.symm
theorem Es (f:Nat):∀(l:List UInt8) (n u j m c:Nat),getF f l n u j=some (m,c)->m<=4000000000/\j < c/\c<=j+f/\c - j<=l.length:=by
 induction f with
 |zero=>intro l n u j m c h;simp[getF] at h
 |succ f ih=>
  intro l n u j m c h;cases l with
  |nil=>simp[getF] at h
  |cons b r=>
   by_cases hb:128<=b.toNat
   .rw [vX _ _ _ _ _ _ hb] at h;have:=ih _ _ _ _ _ _ h;simp;omega
   .by_cases hx:4000000000 < n+b.toNat*u\/(b.toNat=0/\0 < j)
    .rw [Er _ _ _ _ _ _ hb hx] at h;cases h
    .rw [vw _ _ _ _ _ _ hb hx] at h;simp at h;simp;omega
theorem get_bound (l:List UInt8) (i m c:Nat) (h:get l i=some (m,c)):m<=4000000000/\0 < c/\c<=5/\i+c<=l.length:=by
 have:=Es 5 _ _ _ _ _ _ h;simp at this;omega
def val:List UInt8->Nat
 |[]=>0
 |b::r=>b.toNat % 128+128*val r
theorem val_snoc (l:List UInt8) (b:UInt8):val (l++[b])=val l+b.toNat % 128*128 ^ l.length:=by
 induction l with
 |nil=>simp[val]
 |cons c r ih=>simp only[List.cons_append,val,ih,List.length_cons,Nat.pow_succ];rw [Nat.mul_add,Nat.add_assoc];congr 2;rw [Nat.mul_comm (128 ^ r.length) 128,Nat.mul_left_comm]
theorem ak6 (l:List UInt8):val l < 128 ^ l.length:=by
 induction l with
 |nil=>simp[val]
 |cons c r ih=>simp only[val,List.length_cons,Nat.pow_succ];have:=Nat.mod_lt c.toNat (show 0 < 128 by omega);omega
theorem ofNat_toNat (b:UInt8):UInt8.ofNat b.toNat=b:=Aac
theorem putF_val (cs:List UInt8) (b:UInt8) (hb:b.toNat < 128):∀(f:Nat),cs.length<=f->(∀c∈cs,128<=c.toNat)->(b.toNat≠0\/cs=[])->putF f (val (cs++[b]))=cs++[b]:=by
 induction cs with
 |nil=>
  intro f _ _ _;have e:val ([]++[b])=b.toNat:=by simp[val];omega
  rw [e,jo _ _ Aaa,ofNat_toNat];rfl
 |cons c r ih=>
  intro f hf hc h0;have h0':b.toNat≠0:=by simpa using h0
  cases f with
  |zero=>simp at hf
  |succ f=>
   have hcc:128<=c.toNat:=hc c Aac;have hc2:=c.toNat_lt
   have hpos:0 < val (r++[b]):=by
    rw [val_snoc];have:0 < 128 ^ r.length:=Nat.pow_pos Aaa;have h1:b.toNat % 128=b.toNat:=Nat.mod_eq_of_lt hb;rw [h1];have:=Nat.mul_pos (Nat.pos_of_ne_zero h0') this;omega
   have e:val ((c::r)++[b])=c.toNat % 128+128*val (r++[b]):=rfl;rw [e,mP _ _ Aaa];have e1:(c.toNat % 128+128*val (r++[b])) % 128=c.toNat % 128:=Aaa
   have e2:(c.toNat % 128+128*val (r++[b])) / 128=val (r++[b]):=Aaa
   rw [e1,e2,ih f Acg (λx hx=>hc x Aaj) (.inl h0')];have e3:128+c.toNat % 128=c.toNat:=Aaa
   rw [e3,ofNat_toNat];rfl
theorem XE (f:Nat):∀(n:Nat),n < 128 ^ (f+1)->0 < n->∃pre b,putF f n=pre++[b]/\b.toNat≠0:=by
 induction f with
 |zero=>intro n h1 h2;refine⟨[],UInt8.ofNat n,rfl,?_⟩;rw [toNat_byte _ (by simp at h1;omega)];omega
 |succ f ih=>
  intro n h1 h2;by_cases h:n<=127
  .rw [jo _ _ h];refine⟨[],UInt8.ofNat n,rfl,?_⟩;rw [toNat_byte _ Aaa];omega
  .obtain⟨pre,b,e,hb⟩:=ih (n / 128) (by rw [Nat.div_lt_iff_lt_mul Aaa];rw [Nat.pow_succ] at h1;exact h1) Aaa;rw [mP _ _ h,e];exact⟨_::pre,b,rfl,hb⟩
theorem putF_nought (cs:List UInt8) (b:UInt8) (h0:b.toNat=0) (hne:cs≠[]) (f:Nat) (hf:cs.length<=f):putF f (val (cs++[b]))≠cs++[b]:=by
 intro e
 have hv:val (cs++[b]) < 128 ^ (f+1):=by
  have h1:=ak6 (cs++[b]);have h2:128 ^ (cs++[b]).length<=128 ^ (f+1):=Nat.pow_le_pow_right Aaa Acg;omega
 rcases Nat.eq_zero_or_pos (val (cs++[b])) with hz|hp
 .rw [hz,jo _ _ Aaa] at e;have:=congrArg List.length e;simp at this;exact hne this
 .obtain⟨pre,b',e',hb'⟩:=XE f _ hv hp;rw [e] at e';have:=List.append_inj_right' e' rfl;simp at this;subst this;exact hb' h0
end Go.Proofs.YtohmklmkjmlpjaaGreatDoor.Mth
namespace Go.Proofs.YtohmklmkjmlpjaaGreatDoor.Mth
open Go.Proofs.Tryz
theorem KI (f:Nat):∀(l pre:List UInt8) (n j m c:Nat),pre.length=j->j+f=5->(∀x∈pre,128<=x.toNat)->n=val pre->getF f l n (128 ^ j) j=some (m,c)->put m=pre++l.take (c - j):=by
 induction f with
 |zero=>intro l pre n j m c _ _ _ _ h;simp[getF] at h
 |succ f ih=>
  intro l pre n j m c hl hj hp hn h;cases l with
  |nil=>simp[getF] at h
  |cons b r=>
   by_cases hb:128<=b.toNat
   .rw [vX _ _ _ _ _ _ hb] at h;have hc:=(Es f _ _ _ _ _ _ h).2.1
    have:=ih r (pre++[b]) (n+b.toNat % 128*128 ^ j) (j+1) m c Aag Aaa (by
     intro x hx
     rcases List.mem_append.1 hx with hx|hx
     .exact hp x hx
     .simp at hx;subst hx;exact hb) (by rw [val_snoc,hl,hn]) (by rw [Nat.pow_succ];exact h)
    rw [this];obtain⟨d,hd⟩:∃d,c - j=d+1:=⟨c - j - 1,Aaa⟩;have hd2:c - (j+1)=d:=Aaa
    rw [hd,hd2];simp
   .by_cases hx:4000000000 < n+b.toNat*128 ^ j\/(b.toNat=0/\0 < j)
    .rw [Er _ _ _ _ _ _ hb hx] at h;cases h
    .rw [vw _ _ _ _ _ _ hb hx] at h;simp only[Option.some.injEq,Prod.mk.injEq] at h;obtain⟨h1,h2⟩:=h;have e:m=val (pre++[b]):=by rw [val_snoc,hl,<-hn,Nat.mod_eq_of_lt Aaa];exact h1.symm
     have e2:c - j=1:=Aaa
     rw [e,e2]
     have:=putF_val pre b Aaa 5 Aaa hp (by
      by_cases hz:b.toNat=0
      .right
       have:j=0:=Aaa
       exact List.length_eq_zero_iff.1 Aaa
      .exact .inl hz)
     unfold put;rw [this];simp
theorem get_was_put (l:List UInt8) (i m c:Nat) (h:get l i=some (m,c)):put m=(l.drop i).take c:=by
 have:=KI 5 (l.drop i) [] 0 0 m c rfl rfl Aac rfl (by rw [Nat.pow_zero];exact h);simpa using this
theorem abb (g:Nat):∀(v f n u j:Nat) (y:List UInt8),v < 128 ^ (g+1)->v < 128 ^ f->0 < f->(v≠0\/j=0)->n+v*u<=4000000000->getF f (putF g v++y) n u j=some (n+v*u,j+(putF g v).length):=by
 induction g with
 |zero=>
  intro v f n u j y hv _ hf hz hb;obtain⟨f',rfl⟩:∃f',f=f'+1:=⟨f - 1,Aaa⟩;have hv':v<=127:=by simp at hv;omega
  have e:(UInt8.ofNat v).toNat=v:=toNat_byte _ Aaa;rw [jo _ _ hv',List.singleton_append,vw _ _ _ _ _ _ Ach Ach,e];simp
 |succ g ih=>
  intro v f n u j y hv hvf hf hz hb;obtain⟨f',rfl⟩:∃f',f=f'+1:=⟨f - 1,Aaa⟩;by_cases hs:v<=127
  .have e:(UInt8.ofNat v).toNat=v:=toNat_byte _ Aaa;rw [jo _ _ hs,List.singleton_append,vw _ _ _ _ _ _ Ach Ach,e];simp
  .have e:(UInt8.ofNat (128+v % 128)).toNat=128+v % 128:=toNat_byte _ Aaa;have hm:(128+v % 128) % 128=v % 128:=Aaa
   have hmul:v % 128*u+v / 128*(u*128)=v*u:=by
    have h1:v=128*(v / 128)+v % 128:=Aaa
    conv=>rhs;rw [h1]
    rw [Nat.add_mul,Nat.mul_comm u 128,<-Nat.mul_assoc,Nat.mul_comm (v / 128) 128];omega
   have hf':0 < f':=by
    rcases Nat.eq_zero_or_pos f' with h|h
    .subst h;simp at hvf;omega
    .exact h
   rw [mP _ _ hs,List.cons_append,vX _ _ _ _ _ _ Ach,e,hm];rw [ih (v / 128) f' (n+v % 128*u) (u*128) (j+1) y (by rw [Nat.div_lt_iff_lt_mul Aaa];rw [Nat.pow_succ] at hv;exact hv) (by rw [Nat.div_lt_iff_lt_mul Aaa];rw [Nat.pow_succ] at hvf;exact hvf) hf' (.inl Aaa) Aaa];simp only[List.length_cons,Option.some.injEq,Prod.mk.injEq];omega
end Go.Proofs.YtohmklmkjmlpjaaGreatDoor.Mth
namespace Go.Proofs.YtohmklmkjmlpjaaGreatDoor
open Go.Proofs.Tryz
set_option maxHeartbeats 4000000
set_option maxRecDepth 100000
open Go.RowKit
open Mth
variable (no:Int) (k:ByteArray) (n:Int) (m:Mg) (w:World) {G:Option (Nat×Nat)} {i:Int}
theorem yt (i:Int) (w:World):Calls prog 252 #[.int .i64 i] w λe w'=>e= .returned (.iface 272 (.agg #[.iface 274 (.agg #[.int .i64 i])]))/\w=w':=by
 go_in
 go_wp2
 go_ret;exact⟨rfl,rfl⟩
def qZ (o:Option (Nat×Nat)) (i:Int):Value:=
 match o with
 |none=> .tuple #[.int .i64 0,.int .i64 0,.iface 272 (.agg #[.iface 274 (.agg #[.int .i64 i])])]
 |some (n,c)=> .tuple #[.int .i64 n,.int .i64 (i+c),.nilIface]
theorem Xx (s:ByteArray) (i:Int) (w:World) (h:i < 0):Calls prog 251 #[.string s,.int .i64 i] w λe w'=>e= .returned (qZ none i)/\w=w':=by
 go_in
 go_wp2_with (go_at_call 252;refine(yt _ _).mono ?_;rintro e w' ⟨rfl,rfl⟩)
 go_ret3
 exact⟨rfl,rfl⟩
def qj (j u:Nat):Prop:=(j=0/\u=1)\/(j=1/\u=128)\/(j=2/\u=16384)\/(j=3/\u=2097152)\/(j=4/\u=268435456)\/(j=5/\u=34359738368)
theorem Qk {a b:Int} {n c:Nat} (hG:G=some (n,c)) (ha:a=n) (hb:b=i+c):Ending.returned (.tuple #[.int .i64 a,.int .i64 b,.nilIface])= .returned (qZ G i):=by
 subst hG;subst ha;subst hb;rfl
theorem acD (hG:G=none):Ending.returned (.tuple #[.int .i64 0,.int .i64 0,.iface 272 (.agg #[.iface 274 (.agg #[.int .i64 i])])])= .returned (qZ G i):=by
 subst hG;rfl
theorem VP {j u:Nat} (h:qj j u):1<=u/\(j < 5->u<=268435456)/\(j < 5->qj (j+1) (u*128))/\(¬j < 5->j=5/\4000000000 < u):=by
 unfold qj at *;rcases h with⟨rfl,rfl⟩|⟨rfl,rfl⟩|⟨rfl,rfl⟩|⟨rfl,rfl⟩|⟨rfl,rfl⟩|⟨rfl,rfl⟩<;>simp
theorem aeR (b v:Nat):0<=(b:Int) % 128*(v:Int)/\(b:Int) % 128*(v:Int)<=127*(v:Int):=by
 have h1:0<=(b:Int) % 128:=Aaa
 have h2:(b:Int) % 128<=127:=Aaa
 exact⟨Int.mul_nonneg h1 Aaa,Int.mul_le_mul_of_nonneg_right h2 Aaa⟩
theorem LW (b v:Nat) (hb:¬128<=b):(b:Int) % 128*(v:Int)=((b*v:Nat):Int):=by
 rw [Int.emod_eq_of_lt Aaa Aaa];simp
theorem P7 (m b v:Nat) (hb:¬128<=b) (h:(4000000000:Int) < (m:Int)+(b:Int) % 128*(v:Int)):4000000000 < m+b*v:=by
 rw [LW b v hb] at h;generalize b*v=x at *;omega
theorem yw (m b v:Nat) (hb:¬128<=b) (h:¬(4000000000:Int) < (m:Int)+(b:Int) % 128*(v:Int)):m+b*v<=4000000000:=by
 rw [LW b v hb] at h;generalize b*v=x at *;omega
theorem JJ (m b v:Nat) (h:m < v):m+b % 128*v < v*128:=by
 have h1:b % 128<=127:=Aaa
 have h2:=Nat.mul_le_mul_right v h1;omega
theorem P9 (m b v:Nat) (hb:¬128<=b):(m:Int)+(b:Int) % 128*(v:Int)=((m+b*v:Nat):Int):=by
 rw [LW b v hb];generalize b*v=x;omega
theorem P8 (m b v:Nat) (hb:(b:Int)<=0):(m:Int)=((m+b*v:Nat):Int):=by
 have:b=0:=Aaa
 subst this;simp
theorem ayN (s:ByteArray) (i:Nat) (w:World) (hs:s.size<=maxLen):Calls prog 251 #[.string s,.int .i64 i] w λe w'=>e= .returned (qZ (Mth.get s.data.toList i) i)/\w=w':=by
 unfold maxLen at hs;have h0:decide ((i:Int) < 0)=false:=Aac
 go_in
 go_wp2
 go_loop [7,8,9] (λn u a=>∃j m v k:Nat,qj j v/\m < v/\n= .int .i64 m/\u= .int .i64 v/\a= .int .i64 k/\k=i+j/\Mth.getF (5 - j) (s.data.toList.drop k) m v j=Mth.get s.data.toList i) (λ_ _ a=>s.size - (intOf a).toNat)
 case atStart=>exact⟨0,0,1,i,.inl ⟨rfl,rfl⟩,Aaa,rfl,rfl,rfl,rfl,rfl⟩
 case round=>
  obtain⟨j,m,v,k,hu,hm,rfl,rfl,rfl,hk,hget⟩:=hrel;have HG:=Hq hget;have HK:=Hq hk;clear hget hk;obtain⟨hv1,hv2,hu2,hv5⟩:=VP hu;by_cases hlt:k < s.size
  .by_cases hj:j < 5
   .open arf in exact afF
   .obtain⟨rfl,ayd⟩:=hv5 hj;have HR:=Hq (Mth.get_full _ _ _ _ HG);clear hv2 hu2 hv5 hu;exact adT
  .have HR:=Hq (Mth.get_end s k _ m _ _ hlt HG);clear hv2 hu2 hv5 hu;exact adT
set_option maxHeartbeats 2000000
open Mth
theorem Dj (K F T I L:Int) (k:ByteArray) (N:Int) (w:World) (_hs:k.size<=maxLen) (hr:mh F T=false):Calls prog 144 #[nK ⟨K,F,T,I,L,k,N⟩] w (eG w (.bool (cZ ⟨K,F,T,I,L,k,N⟩))):=by
 cases h1:tY F
 case' false=>
  have HP:=Hq (show cZ ⟨K,F,T,I,L,k,N⟩=false by simp[cZ,mh,h1]);have H1:=Hq (λw1=>mZ F false w1 h1);clear h1 hr;exact ahV
 have H1:=Hq (λw1=>mZ F true w1 h1);cases h2:tY T
 case' false=>
  have HP:=Hq (show cZ ⟨K,F,T,I,L,k,N⟩=false by simp[cZ,mh,h2]);have H2:=Hq (λw1=>mZ T false w1 h2);clear h1 h2 hr;exact ahp
 have H2:=Hq (λw1=>mZ T true w1 h2)
 have hft:F=T:=by
  rcases Decidable.em (F=T) with h|h
  .exact h
  .simp[mh,h1,h2,h] at hr
 have HP:=Hq (show cZ ⟨K,F,T,I,L,k,N⟩=false by simp[cZ,mh,hft]);clear h1 h2 hr;subst hft;exact ahV
theorem FM (_K F T I L:Int) (k:ByteArray) (N:Int) (w:World) (hs:k.size<=maxLen) (hr:mh F T=true):Calls prog 144 #[nK ⟨0,F,T,I,L,k,N⟩] w (eG w (.bool (cZ ⟨0,F,T,I,L,k,N⟩))):=by
 open am2 in exact adN
theorem Ik (_K F T I L:Int) (k:ByteArray) (N:Int) (w:World) (hs:k.size<=maxLen) (hr:mh F T=true):Calls prog 144 #[nK ⟨1,F,T,I,L,k,N⟩] w (eG w (.bool (cZ ⟨1,F,T,I,L,k,N⟩))):=by
 open am1 in exact adN
theorem Ij (_K F T I L:Int) (k:ByteArray) (N:Int) (w:World) (hs:k.size<=maxLen) (hr:mh F T=true):Calls prog 144 #[nK ⟨2,F,T,I,L,k,N⟩] w (eG w (.bool (cZ ⟨2,F,T,I,L,k,N⟩))):=by
 open am0 in exact adN
theorem FJ (K F T I L:Int) (k:ByteArray) (N:Int) (w:World) (_hs:k.size<=maxLen) (hr:mh F T=true) (k0:¬K=0) (k1:¬K=1) (k2:¬K=2):Calls prog 144 #[nK ⟨K,F,T,I,L,k,N⟩] w (eG w (.bool (cZ ⟨K,F,T,I,L,k,N⟩))):=by
 open amZ in exact adN
theorem jZ (m:Mg) (w:World) (hs:m.k.size<=maxLen):Calls prog 144 #[nK m] w (eG w (.bool (cZ m))):=by
 obtain⟨K,F,T,I,L,k,N⟩:=m;cases hr:mh F T
 .exact Dj K F T I L k N w hs hr
 by_cases k0:K=0
 .subst k0;exact FM 0 F T I L k N w hs hr
 by_cases k1:K=1
 .subst k1;exact Ik 0 F T I L k N w hs hr
 by_cases k2:K=2
 .subst k2;exact Ij 0 F T I L k N w hs hr
 exact FJ K F T I L k N w hs hr k0 k1 k2
set_option maxHeartbeats 4000000
theorem Iq (hs:k.size<=maxLen):Calls prog 105 #[jG ⟨0,no,k,n,m⟩] w (eG w (.bool (cu ⟨0,no,k,n,m⟩))):=by
 obtain⟨mK,mF,mT,mI,mL,mk,mN⟩:=m;obtain⟨R,hR⟩:∃R,cu ⟨0,no,k,n,⟨mK,mF,mT,mI,mL,mk,mN⟩⟩=R:=⟨_,rfl⟩;exact ajJ
theorem Iu (hs:k.size<=maxLen):Calls prog 105 #[jG ⟨3,no,k,n,m⟩] w (eG w (.bool (cu ⟨3,no,k,n,m⟩))):=by
 obtain⟨mK,mF,mT,mI,mL,mk,mN⟩:=m;obtain⟨R,hR⟩:∃R,cu ⟨3,no,k,n,⟨mK,mF,mT,mI,mL,mk,mN⟩⟩=R:=⟨_,rfl⟩;exact ajJ
theorem Il (hs:k.size<=maxLen):Calls prog 105 #[jG ⟨4,no,k,n,m⟩] w (eG w (.bool (cu ⟨4,no,k,n,m⟩))):=by
 obtain⟨mK,mF,mT,mI,mL,mk,mN⟩:=m;obtain⟨R,hR⟩:∃R,cu ⟨4,no,k,n,⟨mK,mF,mT,mI,mL,mk,mN⟩⟩=R:=⟨_,rfl⟩;exact ajJ
theorem FQ (hs:k.size<=maxLen):Calls prog 105 #[jG ⟨1,no,k,n,m⟩] w (eG w (.bool (cu ⟨1,no,k,n,m⟩))):=by
 obtain⟨mK,mF,mT,mI,mL,mk,mN⟩:=m;obtain⟨R,hR⟩:∃R,cu ⟨1,no,k,n,⟨mK,mF,mT,mI,mL,mk,mN⟩⟩=R:=⟨_,rfl⟩;rw [hR];have HR:=Hq hR;clear hR;cases hk:keyOk k.data.toList
 .have HK:=Hq (λw1=>nP k false w1 hs hk);cases hn:fF n
  .have HN:=Hq (λw1=>eH n false w1 hn);cases ho:fF no
   .have HO:=Hq (λw1=>eH no false w1 ho);have HP:=Hq (show R=(false&&false&&false&&lF ⟨mK,mF,mT,mI,mL,mk,mN⟩) by rw [<-ah HR];simp[cu,hk,hn,ho]);exact Oj
   .have HO:=Hq (λw1=>eH no true w1 ho);have HP:=Hq (show R=(false&&false&&true&&lF ⟨mK,mF,mT,mI,mL,mk,mN⟩) by rw [<-ah HR];simp[cu,hk,hn,ho]);exact Oj
  .have HN:=Hq (λw1=>eH n true w1 hn);cases ho:fF no
   .have HO:=Hq (λw1=>eH no false w1 ho);have HP:=Hq (show R=(false&&true&&false&&lF ⟨mK,mF,mT,mI,mL,mk,mN⟩) by rw [<-ah HR];simp[cu,hk,hn,ho]);exact Oj
   .have HO:=Hq (λw1=>eH no true w1 ho);have HP:=Hq (show R=(false&&true&&true&&lF ⟨mK,mF,mT,mI,mL,mk,mN⟩) by rw [<-ah HR];simp[cu,hk,hn,ho]);exact Oj
 .have HK:=Hq (λw1=>nP k true w1 hs hk);cases hn:fF n
  .have HN:=Hq (λw1=>eH n false w1 hn);cases ho:fF no
   .have HO:=Hq (λw1=>eH no false w1 ho);have HP:=Hq (show R=(true&&false&&false&&lF ⟨mK,mF,mT,mI,mL,mk,mN⟩) by rw [<-ah HR];simp[cu,hk,hn,ho]);exact Oj
   .have HO:=Hq (λw1=>eH no true w1 ho);have HP:=Hq (show R=(true&&false&&true&&lF ⟨mK,mF,mT,mI,mL,mk,mN⟩) by rw [<-ah HR];simp[cu,hk,hn,ho]);exact Oj
  .have HN:=Hq (λw1=>eH n true w1 hn);cases ho:fF no
   .have HO:=Hq (λw1=>eH no false w1 ho);have HP:=Hq (show R=(true&&true&&false&&lF ⟨mK,mF,mT,mI,mL,mk,mN⟩) by rw [<-ah HR];simp[cu,hk,hn,ho]);exact Oj
   .have HO:=Hq (λw1=>eH no true w1 ho);have HP:=Hq (show R=(true&&true&&true&&lF ⟨mK,mF,mT,mI,mL,mk,mN⟩) by rw [<-ah HR];simp[cu,hk,hn,ho]);exact Oj
theorem BK (_hs:k.size<=maxLen):Calls prog 105 #[jG ⟨2,no,k,n,m⟩] w (eG w (.bool (cu ⟨2,no,k,n,m⟩))):=by
 obtain⟨mK,mF,mT,mI,mL,mk,mN⟩:=m;obtain⟨R,hR⟩:∃R,cu ⟨2,no,k,n,⟨mK,mF,mT,mI,mL,mk,mN⟩⟩=R:=⟨_,rfl⟩;rw [hR];have HR:=Hq hR;clear hR;cases ho:fF no
 .have HO:=Hq (λw1=>eH no false w1 ho);have HP:=Hq (show R=(decide (k.toList=[])&&decide (n=0)&&false&&lF ⟨mK,mF,mT,mI,mL,mk,mN⟩) by rw [<-ah HR];simp[cu,ho]);exact ahb
 .have HO:=Hq (λw1=>eH no true w1 ho);have HP:=Hq (show R=(decide (k.toList=[])&&decide (n=0)&&true&&lF ⟨mK,mF,mT,mI,mL,mk,mN⟩) by rw [<-ah HR];simp[cu,ho]);exact ahb
theorem Ir (_hs:k.size<=maxLen):Calls prog 105 #[jG ⟨5,no,k,n,m⟩] w (eG w (.bool (cu ⟨5,no,k,n,m⟩))):=by
 open asr in exact afX
theorem Ip (hm:m.k.size<=maxLen):Calls prog 105 #[jG ⟨6,no,k,n,m⟩] w (eG w (.bool (cu ⟨6,no,k,n,m⟩))):=by
 have HM:=Hq (λw1=>jZ m w1 hm);open atL in exact agp
theorem Io (K no:Int) (k:ByteArray) (n:Int) (m:Mg) (w:World) (h0:¬K=0) (h1:¬K=1) (h2:¬K=2) (h3:¬K=3) (h4:¬K=4) (h5:¬K=5) (h6:¬K=6):Calls prog 105 #[jG ⟨K,no,k,n,m⟩] w (eG w (.bool (cu ⟨K,no,k,n,m⟩))):=by
 have HP:=Hq (show cu ⟨K,no,k,n,m⟩=false by simp[cu,h0,h1,h2,h3,h4,h5,h6]);obtain⟨mK,mF,mT,mI,mL,mk,mN⟩:=m;go_in
 go_wp2_with fail;exact wM
theorem jr (o:gK) (w:World) (hs:o.k.size<=maxLen) (hm:o.m.k.size<=maxLen):Calls prog 105 #[jG o] w (eG w (.bool (cu o))):=by
 obtain⟨K,no,k,n,m⟩:=o;by_cases h0:K=0
 .subst h0;exact Iq no k n m w hs
 by_cases h1:K=1
 .subst h1;exact FQ no k n m w hs
 by_cases h2:K=2
 .subst h2;exact BK no k n m w hs
 by_cases h3:K=3
 .subst h3;exact Iu no k n m w hs
 by_cases h4:K=4
 .subst h4;exact Il no k n m w hs
 by_cases h5:K=5
 .subst h5;exact Ir no k n m w hs
 by_cases h6:K=6
 .subst h6;exact Ip no k n m w hm
 exact Io K no k n m w h0 h1 h2 h3 h4 h5 h6
abbrev muL:Go.Conc.Locks.MuLink:={lock:=70,unlock:=71,ilock:=126,iunlock:=127,lockSlow:=159,unlockSlow:=162,disable:=155,enable:=157,acquire:=158,relMerge:=160,cas32:=156,add32:=161,tMutex:=130,tIMutex:=128,tPMutex:=181,tPIMutex:=203,tPI32:=205,tUP:=207,tNoCopy:=126,tU32:=104}
theorem aiT:Go.Conc.Locks.MuLib prog muL where
 f_lock:=func70.trans Aab
 f_unlock:=func71.trans Aab
 f_ilock:=func126.trans Aab
 f_iunlock:=func127.trans Aab
 f_disable:=func155.trans Aab
 f_enable:=func157.trans Aab
 f_acquire:=func158.trans Aab
 f_relMerge:=func160.trans Aab
 f_cas32:=func156.trans Aab
 f_add32:=func161.trans Aab
 underlying_tIMutex:=Aab
 runUnderlying_tIMutex:=λ_=>by kernel_rfl
 sizeOf_tIMutex:=λ_=>by kernel_rfl
 isAgg_tIMutex:=λ_=>by kernel_rfl
 zeroValue_tIMutex:=λ_=>by kernel_rfl
 underlying_tMutex:=Aab
 runUnderlying_tMutex:=λ_=>by kernel_rfl
 sizeOf_tMutex:=λ_=>by kernel_rfl
 isAgg_tMutex:=λ_=>by kernel_rfl
 zeroValue_tMutex:=λ_=>by kernel_rfl
 underlying_tPMutex:=Aab
 runUnderlying_tPMutex:=λ_=>by kernel_rfl
 sizeOf_tPMutex:=λ_=>by kernel_rfl
 isAgg_tPMutex:=λ_=>by kernel_rfl
 zeroValue_tPMutex:=λ_=>by kernel_rfl
 underlying_tPIMutex:=Aab
 runUnderlying_tPIMutex:=λ_=>by kernel_rfl
 sizeOf_tPIMutex:=λ_=>by kernel_rfl
 isAgg_tPIMutex:=λ_=>by kernel_rfl
 zeroValue_tPIMutex:=λ_=>by kernel_rfl
 underlying_tPI32:=Aab
 runUnderlying_tPI32:=λ_=>by kernel_rfl
 sizeOf_tPI32:=λ_=>by kernel_rfl
 isAgg_tPI32:=λ_=>by kernel_rfl
 zeroValue_tPI32:=λ_=>by kernel_rfl
 underlying_tUP:=Aab
 runUnderlying_tUP:=λ_=>by kernel_rfl
 sizeOf_tUP:=λ_=>by kernel_rfl
 isAgg_tUP:=λ_=>by kernel_rfl
 zeroValue_tUP:=λ_=>by kernel_rfl
 underlying_tNoCopy:=Aab
 runUnderlying_tNoCopy:=λ_=>by kernel_rfl
 sizeOf_tNoCopy:=λ_=>by kernel_rfl
 isAgg_tNoCopy:=λ_=>by kernel_rfl
 zeroValue_tNoCopy:=λ_=>by kernel_rfl
 underlying_t21:=Aab
 runUnderlying_t21:=λ_=>by kernel_rfl
 sizeOf_t21:=λ_=>by kernel_rfl
 isAgg_t21:=λ_=>by kernel_rfl
 zeroValue_t21:=λ_=>by kernel_rfl
 room_tIMutex:=Aab
end Go.Proofs.YtohmklmkjmlpjaaGreatDoor
