/- Parts. -/
import Derived.Test.YtohmklmkjmlpjaaGreatDoorRk6
import Derived.Test.YtohmklmkjmlpjaaGreatDoorRk4
namespace Go.Proofs.YtohmklmkjmlpjaaGreatDoor
open Go.Proofs.Tryz
namespace Mth
structure jw where
 i:Int
 t:Int
 k:ByteArray
 n:Int
structure Sn where
 f:Int
 l:Int
 ids:List Int
structure Rq where
 no:Int
 k:ByteArray
 n:Int
 s:Int
structure Nd where
 id:Int
 par:Int
 kids:List Int
 next:Int
 pu:List Pu
 out:List jw
 seen:List Sn
 old:Int
 reqs:List Rq
instance:Inhabited jw:=⟨⟨0,0,ByteArray.empty,0⟩⟩
instance:Inhabited Sn:=⟨⟨0,0,[]⟩⟩
instance:Inhabited Rq:=⟨⟨0,ByteArray.empty,0,0⟩⟩
abbrev bf (x:Int):List Value:=[.int .i64 x]
abbrev aV (s:jw):List Value:=[.int .i64 s.i,.int .i64 s.t,.string s.k,.int .i64 s.n]
abbrev aJ (r:Rq):List Value:=[.int .i64 r.no,.string r.k,.int .i64 r.n,.int .i64 r.s]
theorem aX (x:Int):(bf x).length=1:=rfl
theorem bQ (x:jw):(aV x).length=4:=rfl
theorem aS (x:Rq):(aJ x).length=4:=rfl
def gZ {α:Type} (p:α->Bool) (r:α->α->Bool):List α->Bool
 |[]=>true
 |[x]=>p x
 |x::y::l=>p x&&r x y&&gZ p r (y::l)
section
variable {α:Type} (p:α->Bool) (r:α->α->Bool)
theorem nN (x:α) (l:List α):gZ p r (x::l)=(p x&&(match l.head? with|none=>true|some y=>r x y)&&gZ p r l):=by
 cases l with
 |nil=>simp[gZ]
 |cons y l=>simp[gZ]
theorem OQ (l:List α) (x:α):gZ p r (l++[x])=(gZ p r l&&(p x&&(match l.getLast? with|none=>true|some y=>r y x))):=by
 induction l with
 |nil=>simp[gZ]
 |cons y l ih=>
  rw [List.cons_append,nN,ih,nN];cases l with
  |nil=>simp[gZ,Bool.and_comm,Bool.and_left_comm]
  |cons z l=>simp[Bool.and_assoc]
theorem Sy (l m:List α):gZ p r (l++m)=true->gZ p r l=true:=by
 induction l with
 |nil=>simp[gZ]
 |cons y l ih=>
  intro h;rw [List.cons_append,nN] at h;rw [nN];simp only[Bool.and_eq_true] at h ⊢;refine⟨⟨h.1.1,?_⟩,ih h.2⟩;cases l with
  |nil=>simp
  |cons z l=>simpa using h.1.2
theorem rH (l:List α) (h:0 < l.length):gZ p r (l.take 1)=p l[0]:=by
 match l,h with
 |x::l,_=>simp[gZ]
theorem uZ (l:List α) (k:Nat) (h:k+1 < l.length):gZ p r (l.take (k+2))=(gZ p r (l.take (k+1))&&(p l[k+1]&&r l[k] l[k+1])):=by
 rw [List.take_succ_eq_append_getElem h,OQ]
 have e:(l.take (k+1)).getLast?=some l[k]:=by
  rw [List.take_succ_eq_append_getElem Aaa,List.getLast?_append];simp
 rw [e]
theorem oH (l:List α) (k:Nat) (h:gZ p r (l.take k)=false):gZ p r l=false:=by
 cases hc:gZ p r l with
 |false=>rfl
 |true=>
  rw [<-List.take_append_drop k l] at hc;rw [Sy p r _ _ hc] at h;cases h
end
def ku (id par x:Int):Bool:=uh x&&decide (x≠id)&&decide (x≠par)
def iN (x y:Int):Bool:=decide (x < y)
def eP (n:Nd):Bool:=uh n.id&&decide (-1<=n.par/\n.par<=29)&&decide (n.par≠n.id)&&decide (n.kids.length<=30)&&gZ (ku n.id n.par) iN n.kids
def hasB (l:List Int) (x:Int):Bool:=l.any λy=>decide (y=x)
def eF (n:Nd) (x:Int):Bool:=(decide (0<=x)&&decide (x=n.par))||hasB n.kids x
def Bv (low x:Int):Bool:=decide (low<=x/\x<=1000000000)
def uV (s:Sn):Bool:=fK s.l&&decide (s.ids.length<=40)&&gZ (Bv s.l) iN s.ids
def nV (n:Nd):Bool:=decide ((n.seen.length:Int)=n.kids.length+(if 0<=n.par then 1 else 0))&&gZ (λs=>eF n s.f&&uV s) (λs t=>iN s.f t.f) n.seen
def uR (n:Nd) (o:jw):Bool:=decide (1<=o.i/\o.i<=n.next - 1)&&eF n o.t&&keyOk o.k.data.toList&&fK o.n
def rW (n:Nd) (q:Rq):Bool:=decide (n.old+1<=q.no/\q.no<=1000000000)&&keyOk q.k.data.toList&&fK q.n&&decide (0<=q.s/\q.s<=2)
def rQ (n:Nd):Bool:=decide (n.out.length<=40)&&gZ (uR n) (λs t=>iN s.i t.i) n.out
def gX (n:Nd):Bool:=qy n.old&&decide (n.reqs.length<=30)&&gZ (rW n) (λs t=>iN s.no t.no) n.reqs
def dY (n:Nd):Bool:=eP n&&jh n.pu&&nV n&&fK n.next&&rQ n&&gX n
end Mth
namespace Mth
def xB {α:Type} (key:α->Int) (y0:Int) (l:List α):Int:=(l.getLast?.map key).getD y0
theorem tZ {α:Type} (key:α->Int) (y0:Int) (l:List α) (k:Nat) (h:k < l.length):xB key y0 (l.take (k+1))=key l[k]:=by
 unfold xB;rw [List.take_succ_eq_append_getElem h,List.getLast?_append];simp
theorem zk {α:Type} (p:α->Bool) (key:α->Int) (y0:Int) (hp:∀x,p x=true->y0 < key x) (l:List α) (k:Nat) (h:k < l.length):
 gZ p (λs t=>iN (key s) (key t)) (l.take (k+1))=(gZ p (λs t=>iN (key s) (key t)) (l.take k)&&(p l[k]&&decide (xB key y0 (l.take k) < key l[k]))):=by
 rw [List.take_succ_eq_append_getElem h,OQ];unfold xB;cases hg:(l.take k).getLast? with
 |none=>
  cases hx:p l[k] with
  |false=>simp
  |true=>simp[hp _ hx]
 |some y=>simp[iN]
theorem zl {α:Type} {p:α->Bool} {r:α->α->Bool} {l:List α} (h:gZ p r l=true):∀x∈l,p x=true:=by
 induction l with
 |nil=>intro x hx;simp at hx
 |cons y l ih=>
  rw [nN] at h;simp only[Bool.and_eq_true] at h;intro x hx;rcases List.mem_cons.1 hx with rfl|hx
  .exact h.1.1
  .exact ih h.2 x hx
theorem Ba {α:Type} {p:α->Bool} {r:α->α->Bool} {key:α->Int} {y0:Int} {l:List α} (hp:∀x,p x=true->y0 < key x) (h:gZ p r l=true):y0<=xB key y0 l:=by
 unfold xB;cases hg:l.getLast? with
 |none=>simp
 |some y=>
  have:=hp y (zl h y (List.mem_of_getLast? hg));simp;omega
theorem tH {α:Type} {p:α->Bool} {r:α->α->Bool} (ht:∀a b c,r a b=true->r b c=true->r a c=true) {l:List α}:gZ p r l=true↔(∀x∈l,p x=true)/\l.Pairwise (λa b=>r a b=true):=by
 induction l with
 |nil=>simp[gZ]
 |cons x l ih=>
  rw [nN];simp only[Bool.and_eq_true,ih,List.pairwise_cons,List.mem_cons,forall_eq_or_imp];constructor
  .rintro⟨⟨h1,h2⟩,h3,h4⟩;refine⟨⟨h1,h3⟩,?_,h4⟩;cases l with
   |nil=>intro a ha;simp at ha
   |cons y l=>
    simp only[List.head?_cons] at h2;intro a ha;rcases List.mem_cons.1 ha with rfl|ha
    .exact h2
    .exact ht x y a h2 ((List.pairwise_cons.1 h4).1 a ha)
  .rintro⟨⟨h1,h3⟩,h2,h4⟩;refine⟨⟨h1,?_⟩,h3,h4⟩;cases l with
   |nil=>simp
   |cons y l=>exact h2 y Aac
theorem aeL {α:Type} {p q:α->Bool} {r:α->α->Bool} {l:List α}:gZ (λx=>p x&&q x) r l=(gZ p r l&&l.all q):=by
 induction l with
 |nil=>simp[gZ]
 |cons x l ih=>
  rw [nN,ih,nN,List.all_cons];generalize p x=a;generalize q x=b;generalize gZ p r l=d;generalize l.all q=e;cases a<;>cases b<;>cases d<;>cases e<;>simp
theorem abp:∀(B A:List Int),A.Pairwise (· < ·)->B.Pairwise (· < ·)->(∀x∈A,x∈B)->A.length<=B.length:=by
 intro B;induction B with
 |nil=>
  intro A _ _ hs;cases A with
  |nil=>simp
  |cons a A=>exact absurd (hs a Aac) Aac
 |cons b B ih=>
  intro A hA hB hs;cases A with
  |nil=>simp
  |cons a A=>
   have hA':=List.pairwise_cons.1 hA;have hB':=List.pairwise_cons.1 hB;by_cases hab:a=b
   .subst hab
    have:=ih A hA'.2 hB'.2 (λx hx=>by
     rcases List.mem_cons.1 (hs x (List.mem_cons_of_mem _ hx)) with h|h
     .have:=hA'.1 x hx;omega
     .exact h)
    simp;omega
   .have haB:a∈B:=by
     exact ajE
    have hba:=hB'.1 a haB
    have:=ih (a::A) hA hB'.2 (λx hx=>by
     rcases List.mem_cons.1 (hs x hx) with h|h
     .exact ajM
     .exact h)
    simp at this ⊢;omega
theorem ald:∀(B A:List Int),A.Pairwise (· < ·)->B.Pairwise (· < ·)->(∀x∈A,x∈B)->B.length<=A.length->A=B:=by
 intro B;induction B with
 |nil=>
  intro A _ _ hs _;cases A with
  |nil=>rfl
  |cons a A=>exact absurd (hs a Aac) Aac
 |cons b B ih=>
  intro A hA hB hs hl;cases A with
  |nil=>simp at hl
  |cons a A=>
   have hA':=List.pairwise_cons.1 hA;have hB':=List.pairwise_cons.1 hB;by_cases hab:a=b
   .subst hab
    rw [ih A hA'.2 hB'.2 (λx hx=>by
     rcases List.mem_cons.1 (hs x (List.mem_cons_of_mem _ hx)) with h|h
     .have:=hA'.1 x hx;omega
     .exact h) (by simpa using hl)]
   .have haB:a∈B:=by
     exact ajE
    have hba:=hB'.1 a haB
    have:=abp B (a::A) hA hB'.2 (λx hx=>by
     rcases List.mem_cons.1 (hs x hx) with h|h
     .exact ajM
     .exact h)
    simp at this hl;omega
def qA (n:Nd):List Int:=n.kids++(if n.par= -1 then[] else[n.par])
def YN (l:List Int):List Int:=l.mergeSort λx y=>decide (x<=y)
theorem ql (l:List Int):(YN l).length=l.length:=List.length_mergeSort l
theorem MW (l:List Int) (x:Int):x∈YN l↔x∈l:=(List.mergeSort_perm l _).mem_iff
theorem afI {l:List Int} (h:l.Nodup):(YN l).Pairwise (· < ·):=by
 have h1:(YN l).Pairwise (λx y=>decide (x<=y)=true):=List.pairwise_mergeSort (le:=λx y:Int=>decide (x<=y)) (λa b c h1 h2=>by simp at *;omega) (λa b=>Aag) l;have h2:(YN l).Nodup:=(List.mergeSort_perm l _).symm.nodup h;exact(h1.and h2).imp (λ{a b} h=>by have:=of_decide_eq_true h.1;have:=h.2;omega)
theorem zx (l:List Int) (x:Int):hasB l x=true↔x∈l:=by
 unfold hasB;rw [List.any_eq_true];constructor
 .rintro⟨y,hy,h⟩;have:=of_decide_eq_true h;subst this;exact hy
 .intro h;exact⟨x,h,Aac⟩
theorem mX (a b c:Int) (h1:iN a b=true) (h2:iN b c=true):iN a c=true:=by
 unfold iN at *;simp at *;omega
theorem qc {n:Nd} (h:eP n=true):(∀x∈n.kids,ku n.id n.par x=true)/\n.kids.Pairwise (· < ·)/\ -1<=n.par:=by
 unfold eP at h;simp only[Bool.and_eq_true] at h;obtain⟨h1,h2⟩:=(tH (r:=iN) mX).1 h.2;exact⟨h1,h2.imp (λ{a b} h=>of_decide_eq_true h),(of_decide_eq_true h.1.1.1.2).1⟩
theorem TR {n:Nd} (h:eP n=true):(qA n).Nodup:=by
 obtain⟨h1,h2,_⟩:=qc h;have h3:n.kids.Nodup:=h2.imp (λ{a b} h=>Aaa);unfold qA;split
 .simpa using h3
 .rw [List.nodup_append];refine⟨h3,Aac,?_⟩;intro a ha b hb;have hb':b=n.par:=by simpa using hb
  have:=h1 a ha;unfold ku at this;simp only[Bool.and_eq_true,decide_eq_true_eq] at this;rw [hb'];exact this.2
theorem Fp {n:Nd} (h:eP n=true) (x:Int):eF n x=true↔x∈qA n:=by
 obtain⟨h1,_,h3⟩:=qc h;unfold eF qA;rw [Bool.or_eq_true,zx,List.mem_append];constructor
 .rintro(h|h)
  .simp only[Bool.and_eq_true,decide_eq_true_eq] at h;right
   rw [if_neg Aaa];simp[h.2]
  .exact .inl h
 .rintro(h|h)
  .exact .inr h
  .left
   split at h
   .simp at h
   .have:x=n.par:=Abi
    exact aa8
theorem vI {n:Nd} (h:eP n=true):((qA n).length:Int)=n.kids.length+(if 0<=n.par then 1 else 0):=by
 obtain⟨_,_,h3⟩:=qc h;unfold qA;by_cases hp:n.par= -1
 .rw [if_pos hp,if_neg Aaa];simp
 .rw [if_neg hp,if_pos Aaa];simp
theorem wK {n:Nd} (hp:eP n=true):nV n=(decide (n.seen.map (·.f)=YN (qA n))&&n.seen.all uV):=by
 have hnd:=TR hp;have hsr:=afI hnd;unfold nV;rw [aeL,<-vI hp,<-Bool.and_assoc];congr 1
 rw [Bool.eq_iff_iff,Bool.and_eq_true,decide_eq_true_iff,decide_eq_true_iff,tH (λa b c h1 h2=>mX a.f b.f c.f h1 h2)];constructor
 .rintro⟨h1,h2,h3⟩;refine ald _ _ ?_ hsr ?_ ?_
  .rw [List.pairwise_map];exact h3.imp (λ{a b} h=>of_decide_eq_true h)
  .intro x hx;obtain⟨s,hs,rfl⟩:=List.mem_map.1 hx;rw [MW];exact(Fp hp _).1 (h2 s hs)
  .rw [ql,List.length_map];omega
 .intro h;refine⟨?_,?_,?_⟩
  .have:=congrArg List.length h;rw [ql,List.length_map] at this;omega
  .intro s hs;rw [Fp hp,<-MW,<-h];exact List.mem_map.2 ⟨s,hs,rfl⟩
  .rw [<-h,List.pairwise_map] at hsr;exact hsr.imp (λ{a b} h=>decide_eq_true h)
end Mth
end Go.Proofs.YtohmklmkjmlpjaaGreatDoor
