/- Parts. -/
import Derived.Test.YtacgbldlonoaaaaGreatDoorRw2
import Derived.Test.YtacgbldlonoaaaaGreatDoorRw5
namespace Go.Proofs.YtacgbldlonoaaaaGreatDoor
open Go.Proofs.Tryz
set_option maxHeartbeats 2000000
namespace Mth
structure Mg where
 K:Int
 F:Int
 T:Int
 I:Int
 L:Int
 k:ByteArray
 N:Int
abbrev cK (K F T I L:Int) (k:ByteArray) (N:Int):Array Value:=#[.int .i64 K,.int .i64 F,.int .i64 T,.int .i64 I,.int .i64 L,.string k,.int .i64 N]
abbrev qg (m:Mg):Value:= .agg #[.int .i64 m.K,.int .i64 m.F,.int .i64 m.T,.int .i64 m.I,.int .i64 m.L,.string m.k,.int .i64 m.N]
def rZ (n:Int):Bool:=decide (0<=n/\n<=29)
def fV (n:Int):Bool:=decide (1<=n/\n<=1000000000)
def nP (f t:Int):Bool:=rZ f&&rZ t&&decide (f≠t)
def bY (m:Mg):Bool:=
 nP m.F m.T&&
  (if m.K=0 then keyOk m.k.data.toList&&fV m.N&&decide (m.I=0)&&decide (m.L=0)
   else if m.K=1 then keyOk m.k.data.toList&&fV m.N&&fV m.I&&decide (1<=m.L/\m.L<=m.I)
   else if m.K=2 then fV m.I&&decide (m.k.size=0)&&decide (m.N=0)&&decide (m.L=0)
   else false)
end Mth
open Go.RowKit
open Mth
theorem wp_at {P:Program} {Q:Exit->Act->World->Prop} {c:Code} {a:Act} {W:World} (h:∀W',W'=W->Code.wp P c Q a W'):Code.wp P c Q a W:=h W rfl
theorem au (w:World) (o:Obj):Below w.heap.size w (w.alloc o):=(Below.refl _ _).alloc (Nat.le_refl _) _
theorem Kk {p:Prop} [Decidable p] (h:¬p):Ending.returned (.bool false)= .returned (.bool (decide p)):=by rw [decide_eq_false h]
theorem VO {p q:Prop} [Decidable p] [Decidable q] (h:p↔q):Ending.returned (.bool (decide p))= .returned (.bool (decide q)):=by rw [decide_eq_decide.2 h]
theorem uI (x a b:Int) (r:Bool) (w:World) (h:decide (a<=x/\x<=b)=r):Calls Tryz.prog 63 #[.int .i64 x,.int .i64 a,.int .i64 b] w λe w'=>e= .returned (.bool r)/\w=w':=by
 subst h;by_cases h:a<=x/\x<=b
 .rw [decide_eq_true h];exact qx x a b w h.1 h.2
 .rw [decide_eq_false h];exact sW x a b w Aaa
theorem lW (n:Int) (r:Bool) (w:World) (h:rZ n=r):Calls Tryz.prog 134 #[.int .i64 n] w λe w'=>e= .returned (.bool r)/\w=w':=by
 go_in
 exact ahv
theorem eU (n:Int) (r:Bool) (w:World) (h:fV n=r):Calls Tryz.prog 61 #[.int .i64 n] w λe w'=>e= .returned (.bool r)/\w=w':=by
 go_in
 exact ahv
theorem isNode (n:Int) (r:Bool) (w:World) (h:rZ n=r):Calls Tryz.prog 128 #[.int .i64 n] w λe w'=>e= .returned (.bool r)/\w=w':=by
 subst h;by_cases h0:0<=n
 .go_in
  go_wp2
  go_ret;exact⟨VO Aaa,rfl⟩
 .go_in
  go_wp2
  go_ret;exact⟨Kk Aaa,rfl⟩
theorem aU (n:Int) (r:Bool) (w:World) (h:fV n=r):Calls Tryz.prog 54 #[.int .i64 n] w λe w'=>e= .returned (.bool r)/\w=w':=by
 subst h;by_cases h0:1<=n
 .go_in
  go_wp2
  go_ret;exact⟨VO Aaa,rfl⟩
 .go_in
  go_wp2
  go_ret;exact⟨Kk Aaa,rfl⟩
theorem iF (s:ByteArray) (b:Bool) (w:World) (h:keyOk s.data.toList=b):Calls Tryz.prog 131 #[.string s] w λe w'=>e= .returned (.bool b)/\w=w':=by
 rw [<-h];exact JU s w
theorem nK (s:ByteArray) (b:Bool) (w:World) (hs:s.size<=maxLen) (h:keyOk s.data.toList=b):Calls Tryz.prog 64 #[.string s] w λe w'=>e= .returned (.bool b)/\w=w':=by
 rw [<-h];exact Kr s w hs
namespace Mth
structure lJ where
 i:Int
 t:Int
 k:ByteArray
 n:Int
structure Sn where
 f:Int
 l:Int
 ids:List Int
structure Rq where
 no:Int
 k:ByteArray
 n:Int
 s:Int
structure Nd where
 id:Int
 par:Int
 kids:List Int
 next:Int
 pu:List Pu
 out:List lJ
 seen:List Sn
 old:Int
 reqs:List Rq
instance:Inhabited lJ:=⟨⟨0,0,ByteArray.empty,0⟩⟩
instance:Inhabited Sn:=⟨⟨0,0,[]⟩⟩
instance:Inhabited Rq:=⟨⟨0,ByteArray.empty,0,0⟩⟩
abbrev aS (x:Int):List Value:=[.int .i64 x]
abbrev aW (s:lJ):List Value:=[.int .i64 s.i,.int .i64 s.t,.string s.k,.int .i64 s.n]
abbrev aN (r:Rq):List Value:=[.int .i64 r.no,.string r.k,.int .i64 r.n,.int .i64 r.s]
theorem aR (x:Int):(aS x).length=1:=rfl
theorem eu (x:lJ):(aW x).length=4:=rfl
theorem bX (x:Rq):(aN x).length=4:=rfl
def iB {α:Type} (p:α->Bool) (r:α->α->Bool):List α->Bool
 |[]=>true
 |[x]=>p x
 |x::y::l=>p x&&r x y&&iB p r (y::l)
section
variable {α:Type} (p:α->Bool) (r:α->α->Bool)
theorem oV (x:α) (l:List α):iB p r (x::l)=(p x&&(match l.head? with|none=>true|some y=>r x y)&&iB p r l):=by
 cases l with
 |nil=>simp[iB]
 |cons y l=>simp[iB]
theorem OW (l:List α) (x:α):iB p r (l++[x])=(iB p r l&&(p x&&(match l.getLast? with|none=>true|some y=>r y x))):=by
 induction l with
 |nil=>simp[iB]
 |cons y l ih=>
  rw [List.cons_append,oV,ih,oV]
  cases l with
  |nil=>simp[iB,Bool.and_comm,Bool.and_left_comm]
  |cons z l=>simp[Bool.and_assoc]
theorem SG (l m:List α):iB p r (l++m)=true->iB p r l=true:=by
 induction l with
 |nil=>simp[iB]
 |cons y l ih=>
  intro h
  rw [List.cons_append,oV] at h
  rw [oV]
  simp only[Bool.and_eq_true] at h ⊢
  refine⟨⟨h.1.1,?_⟩,ih h.2⟩
  cases l with
  |nil=>simp
  |cons z l=>simpa using h.1.2
theorem sG (l:List α) (h:0 < l.length):iB p r (l.take 1)=p l[0]:=by
 match l,h with
 |x::l,_=>simp[iB]
theorem vV (l:List α) (k:Nat) (h:k+1 < l.length):iB p r (l.take (k+2))=(iB p r (l.take (k+1))&&(p l[k+1]&&r l[k] l[k+1])):=by
 rw [List.take_succ_eq_append_getElem h,OW]
 have e:(l.take (k+1)).getLast?=some l[k]:=by
  rw [List.take_succ_eq_append_getElem Aaa,List.getLast?_append];simp
 rw [e]
theorem qd (l:List α) (k:Nat) (h:iB p r (l.take k)=false):iB p r l=false:=by
 cases hc:iB p r l with
 |false=>rfl
 |true=>
  rw [<-List.take_append_drop k l] at hc
  rw [SG p r _ _ hc] at h
  cases h
end
def jN (id par x:Int):Bool:=rZ x&&decide (x≠id)&&decide (x≠par)
def iQ (x y:Int):Bool:=decide (x < y)
def dH (n:Nd):Bool:=rZ n.id&&decide (-1<=n.par/\n.par<=29)&&decide (n.par≠n.id)&&decide (n.kids.length<=30)&&iB (jN n.id n.par) iQ n.kids
def hasB (l:List Int) (x:Int):Bool:=l.any λy=>decide (y=x)
def dV (n:Nd) (x:Int):Bool:=(decide (0<=x)&&decide (x=n.par))||hasB n.kids x
def Bp (low x:Int):Bool:=decide (low<=x/\x<=1000000000)
def vO (s:Sn):Bool:=fV s.l&&decide (s.ids.length<=40)&&iB (Bp s.l) iQ s.ids
def pJ (n:Nd):Bool:=decide ((n.seen.length:Int)=n.kids.length+(if 0<=n.par then 1 else 0))&&iB (λs=>dV n s.f&&vO s) (λs t=>iQ s.f t.f) n.seen
def vN (n:Nd) (o:lJ):Bool:=decide (1<=o.i/\o.i<=n.next - 1)&&dV n o.t&&keyOk o.k.data.toList&&fV o.n
def tH (n:Nd) (q:Rq):Bool:=decide (n.old+1<=q.no/\q.no<=1000000000)&&keyOk q.k.data.toList&&fV q.n&&decide (0<=q.s/\q.s<=2)
def sZ (n:Nd):Bool:=decide (n.out.length<=40)&&iB (vN n) (λs t=>iQ s.i t.i) n.out
def iy (n:Nd):Bool:=ru n.old&&decide (n.reqs.length<=30)&&iB (tH n) (λs t=>iQ s.no t.no) n.reqs
def dY (n:Nd):Bool:=dH n&&jo n.pu&&pJ n&&fV n.next&&sZ n&&iy n
end Mth
namespace Mth
def xR {α:Type} (key:α->Int) (y0:Int) (l:List α):Int:=(l.getLast?.map key).getD y0
theorem uJ {α:Type} (key:α->Int) (y0:Int) (l:List α) (k:Nat) (h:k < l.length):xR key y0 (l.take (k+1))=key l[k]:=by
 unfold xR;rw [List.take_succ_eq_append_getElem h,List.getLast?_append];simp
theorem zy {α:Type} (p:α->Bool) (key:α->Int) (y0:Int) (hp:∀x,p x=true->y0 < key x) (l:List α) (k:Nat) (h:k < l.length):
 iB p (λs t=>iQ (key s) (key t)) (l.take (k+1))=(iB p (λs t=>iQ (key s) (key t)) (l.take k)&&(p l[k]&&decide (xR key y0 (l.take k) < key l[k]))):=by
 rw [List.take_succ_eq_append_getElem h,OW];unfold xR;cases hg:(l.take k).getLast? with
 |none=>
  cases hx:p l[k] with
  |false=>simp
  |true=>simp[hp _ hx]
 |some y=>simp[iQ]
theorem zB {α:Type} {p:α->Bool} {r:α->α->Bool} {l:List α} (h:iB p r l=true):∀x∈l,p x=true:=by
 induction l with
 |nil=>intro x hx;simp at hx
 |cons y l ih=>
  rw [oV] at h
  simp only[Bool.and_eq_true] at h
  intro x hx
  rcases List.mem_cons.1 hx with rfl|hx
  .exact h.1.1
  .exact ih h.2 x hx
theorem BL {α:Type} {p:α->Bool} {r:α->α->Bool} {key:α->Int} {y0:Int} {l:List α} (hp:∀x,p x=true->y0 < key x) (h:iB p r l=true):y0<=xR key y0 l:=by
 unfold xR;cases hg:l.getLast? with
 |none=>simp
 |some y=>
  have:=hp y (zB h y (List.mem_of_getLast? hg))
  simp
  omega
theorem um {α:Type} {p:α->Bool} {r:α->α->Bool} (ht:∀a b c,r a b=true->r b c=true->r a c=true) {l:List α}:iB p r l=true↔(∀x∈l,p x=true)/\l.Pairwise (λa b=>r a b=true):=by
 induction l with
 |nil=>simp[iB]
 |cons x l ih=>
  rw [oV]
  simp only[Bool.and_eq_true,ih,List.pairwise_cons,List.mem_cons,forall_eq_or_imp]
  constructor
  .rintro⟨⟨h1,h2⟩,h3,h4⟩;refine⟨⟨h1,h3⟩,?_,h4⟩;cases l with
   |nil=>intro a ha;simp at ha
   |cons y l=>
    simp only[List.head?_cons] at h2
    intro a ha
    rcases List.mem_cons.1 ha with rfl|ha
    .exact h2
    .exact ht x y a h2 ((List.pairwise_cons.1 h4).1 a ha)
  .rintro⟨⟨h1,h3⟩,h2,h4⟩;refine⟨⟨h1,?_⟩,h3,h4⟩;cases l with
   |nil=>simp
   |cons y l=>exact h2 y Aac
theorem adV {α:Type} {p q:α->Bool} {r:α->α->Bool} {l:List α}:iB (λx=>p x&&q x) r l=(iB p r l&&l.all q):=by
 induction l with
 |nil=>simp[iB]
 |cons x l ih=>
  rw [oV,ih,oV,List.all_cons]
  generalize p x=a
  generalize q x=b
  generalize iB p r l=d
  generalize l.all q=e
  cases a<;>cases b<;>cases d<;>cases e<;>simp
theorem SA:∀(B A:List Int),A.Pairwise (· < ·)->B.Pairwise (· < ·)->(∀x∈A,x∈B)->A.length<=B.length:=by
 intro B;induction B with
 |nil=>
  intro A _ _ hs
  cases A with
  |nil=>simp
  |cons a A=>exact absurd (hs a Aac) Aac
 |cons b B ih=>
  intro A hA hB hs
  cases A with
  |nil=>simp
  |cons a A=>
   have hA':=List.pairwise_cons.1 hA
   have hB':=List.pairwise_cons.1 hB
   by_cases hab:a=b
   .subst hab
    have:=ih A hA'.2 hB'.2 (λx hx=>by
     rcases List.mem_cons.1 (hs x (List.mem_cons_of_mem _ hx)) with h|h
     .have:=hA'.1 x hx;omega
     .exact h)
    simp;omega
   .have haB:a∈B:=by
     exact ahF
    have hba:=hB'.1 a haB
    have:=ih (a::A) hA hB'.2 (λx hx=>by
     rcases List.mem_cons.1 (hs x hx) with h|h
     .exact ahN
     .exact h)
    simp at this ⊢;omega
theorem aaW:∀(B A:List Int),A.Pairwise (· < ·)->B.Pairwise (· < ·)->(∀x∈A,x∈B)->B.length<=A.length->A=B:=by
 intro B;induction B with
 |nil=>
  intro A _ _ hs _
  cases A with
  |nil=>rfl
  |cons a A=>exact absurd (hs a Aac) Aac
 |cons b B ih=>
  intro A hA hB hs hl
  cases A with
  |nil=>simp at hl
  |cons a A=>
   have hA':=List.pairwise_cons.1 hA
   have hB':=List.pairwise_cons.1 hB
   by_cases hab:a=b
   .subst hab
    rw [ih A hA'.2 hB'.2 (λx hx=>by
     rcases List.mem_cons.1 (hs x (List.mem_cons_of_mem _ hx)) with h|h
     .have:=hA'.1 x hx;omega
     .exact h) (by simpa using hl)]
   .have haB:a∈B:=by
     exact ahF
    have hba:=hB'.1 a haB
    have:=SA B (a::A) hA hB'.2 (λx hx=>by
     rcases List.mem_cons.1 (hs x hx) with h|h
     .exact ahN
     .exact h)
    simp at this hl;omega
def lN (n:Nd):List Int:=n.kids++(if n.par= -1 then[] else[n.par])
def Nj (l:List Int):List Int:=l.mergeSort λx y=>decide (x<=y)
theorem ow (l:List Int):(Nj l).length=l.length:=List.length_mergeSort l
theorem AR (l:List Int) (x:Int):x∈Nj l↔x∈l:=(List.mergeSort_perm l _).mem_iff
theorem Nk {l:List Int} (h:l.Nodup):(Nj l).Pairwise (· < ·):=by
 have h1:(Nj l).Pairwise (λx y=>decide (x<=y)=true):=List.pairwise_mergeSort (le:=λx y:Int=>decide (x<=y)) (λa b c h1 h2=>by simp at *;omega) (λa b=>Aaf) l;have h2:(Nj l).Nodup:=(List.mergeSort_perm l _).symm.nodup h;exact(h1.and h2).imp (λ{a b} h=>by have:=of_decide_eq_true h.1;have:=h.2;omega)
theorem zJ (l:List Int) (x:Int):hasB l x=true↔x∈l:=by
 unfold hasB;rw [List.any_eq_true];constructor
 .rintro⟨y,hy,h⟩;have:=of_decide_eq_true h;subst this;exact hy
 .intro h;exact⟨x,h,Aac⟩
theorem nY (a b c:Int) (h1:iQ a b=true) (h2:iQ b c=true):iQ a c=true:=by
 unfold iQ at *;simp at *;omega
theorem nZ {n:Nd} (h:dH n=true):(∀x∈n.kids,jN n.id n.par x=true)/\n.kids.Pairwise (· < ·)/\ -1<=n.par:=by
 unfold dH at h;simp only[Bool.and_eq_true] at h;obtain⟨h1,h2⟩:=(um (r:=iQ) nY).1 h.2;exact⟨h1,h2.imp (λ{a b} h=>of_decide_eq_true h),(of_decide_eq_true h.1.1.1.2).1⟩
theorem yF {n:Nd} (h:dH n=true):(lN n).Nodup:=by
 obtain⟨h1,h2,_⟩:=nZ h;have h3:n.kids.Nodup:=h2.imp (λ{a b} h=>Aaa);unfold lN;split
 .simpa using h3
 .rw [List.nodup_append];refine⟨h3,Aac,?_⟩;intro a ha b hb;have hb':b=n.par:=by simpa using hb
  have:=h1 a ha;unfold jN at this;simp only[Bool.and_eq_true,decide_eq_true_eq] at this;rw [hb'];exact this.2
theorem wB {n:Nd} (h:dH n=true) (x:Int):dV n x=true↔x∈lN n:=by
 obtain⟨h1,_,h3⟩:=nZ h;unfold dV lN;rw [Bool.or_eq_true,zJ,List.mem_append];constructor
 .rintro(h|h)
  .simp only[Bool.and_eq_true,decide_eq_true_eq] at h;right
   rw [if_neg Aaa];simp[h.2]
  .exact .inl h
 .rintro(h|h)
  .exact .inr h
  .left
   split at h
   .simp at h
   .have:x=n.par:=Abg
    exact aaL
theorem wu {n:Nd} (h:dH n=true):((lN n).length:Int)=n.kids.length+(if 0<=n.par then 1 else 0):=by
 obtain⟨_,_,h3⟩:=nZ h;unfold lN;by_cases hp:n.par= -1
 .rw [if_pos hp,if_neg Aaa];simp
 .rw [if_neg hp,if_pos Aaa];simp
theorem uV {n:Nd} (hp:dH n=true):pJ n=(decide (n.seen.map (·.f)=Nj (lN n))&&n.seen.all vO):=by
 have hnd:=yF hp;have hsr:=Nk hnd;unfold pJ;rw [adV,<-wu hp,<-Bool.and_assoc];congr 1
 rw [Bool.eq_iff_iff,Bool.and_eq_true,decide_eq_true_iff,decide_eq_true_iff,um (λa b c h1 h2=>nY a.f b.f c.f h1 h2)];constructor
 .rintro⟨h1,h2,h3⟩;refine aaW _ _ ?_ hsr ?_ ?_
  .rw [List.pairwise_map];exact h3.imp (λ{a b} h=>of_decide_eq_true h)
  .intro x hx;obtain⟨s,hs,rfl⟩:=List.mem_map.1 hx;rw [AR];exact(wB hp _).1 (h2 s hs)
  .rw [ow,List.length_map];omega
 .intro h;refine⟨?_,?_,?_⟩
  .have:=congrArg List.length h;rw [ow,List.length_map] at this;omega
  .intro s hs;rw [wB hp,<-AR,<-h];exact List.mem_map.2 ⟨s,hs,rfl⟩
  .rw [<-h,List.pairwise_map] at hsr;exact hsr.imp (λ{a b} h=>decide_eq_true h)
end Mth
namespace Mth
structure fP where
 K:Int
 no:Int
 k:ByteArray
 n:Int
 m:Mg
def mh (m:Mg):Bool:=decide (m.K=0/\m.F=0/\m.T=0/\m.I=0/\m.L=0/\m.k.toList=[]/\m.N=0)
def bq (o:fP):Bool:=
 if o.K=0\/o.K=3\/o.K=4 then keyOk o.k.data.toList&&fV o.n&&decide (o.no=0)&&mh o.m
 else if o.K=1 then keyOk o.k.data.toList&&fV o.n&&fV o.no&&mh o.m
 else if o.K=2 then decide (o.k.toList=[])&&decide (o.n=0)&&fV o.no&&mh o.m
 else if o.K=5 then decide (o.k.toList=[])&&decide (o.n=0)&&decide (o.no=0)&&mh o.m
 else if o.K=6 then decide (o.k.toList=[])&&decide (o.n=0)&&decide (o.no=0)&&bY o.m
 else false
end Mth
abbrev cu (K no:Int) (k:ByteArray) (nn mK mF mT mI mL:Int) (mk:ByteArray) (mN:Int):Array Value:=#[.int .i64 K,.int .i64 no,.string k,.int .i64 nn,.int .i64 mK,.int .i64 mF,.int .i64 mT,.int .i64 mI,.int .i64 mL,.string mk,.int .i64 mN]
abbrev jX (o:fP):Value:= .agg #[.int .i64 o.K,.int .i64 o.no,.string o.k,.int .i64 o.n,.int .i64 o.m.K,.int .i64 o.m.F,.int .i64 o.m.T,.int .i64 o.m.I,.int .i64 o.m.L,.string o.m.k,.int .i64 o.m.N]
set_option maxRecDepth 100000
theorem Eb (K F T I L:Int) (k:ByteArray) (N:Int) (w:World) (_hs:k.size<=maxLen) (hr:nP F T=false):Calls Tryz.prog 113 #[qg ⟨K,F,T,I,L,k,N⟩] w (fF w (.bool (bY ⟨K,F,T,I,L,k,N⟩))):=by
 cases h1:rZ F
 case' false=>
  have HP:=Hq (show bY ⟨K,F,T,I,L,k,N⟩=false by simp[bY,nP,h1])
  have H1:=Hq (λw1=>lW F false w1 h1)
  clear h1 hr
  go_in
  go_wp2_with (first|(go_at_call_of 134 F;refine(H1 _).mono ?_;rintro e w1 ⟨rfl,rfl⟩))
  go_ret
  exact⟨aD HP.symm,au w _⟩
 have H1:=Hq (λw1=>lW F true w1 h1);cases h2:rZ T
 case' false=>
  have HP:=Hq (show bY ⟨K,F,T,I,L,k,N⟩=false by simp[bY,nP,h2])
  have H2:=Hq (λw1=>lW T false w1 h2)
  clear h1 h2 hr
  go_in
  go_wp2_with (first|(go_at_call_of 134 F;refine(H1 _).mono ?_;rintro e w1 ⟨rfl,rfl⟩)|(go_at_call_of 134 T;refine(H2 _).mono ?_;rintro e w1 ⟨rfl,rfl⟩))
  go_ret
  exact⟨aD HP.symm,au w _⟩
 have H2:=Hq (λw1=>lW T true w1 h2)
 have hft:F=T:=by
  rcases Decidable.em (F=T) with h|h
  .exact h
  .simp[nP,h1,h2,h] at hr
 have HP:=Hq (show bY ⟨K,F,T,I,L,k,N⟩=false by simp[bY,nP,hft]);clear h1 h2 hr;subst hft;go_in
 go_wp2_with (first|(go_at_call_of 134 F;refine(H1 _).mono ?_;rintro e w1 ⟨rfl,rfl⟩))
 exact WI
theorem Gn (_K F T I L:Int) (k:ByteArray) (N:Int) (w:World) (hs:k.size<=maxLen) (hr:nP F T=true):Calls Tryz.prog 113 #[qg ⟨0,F,T,I,L,k,N⟩] w (fF w (.bool (bY ⟨0,F,T,I,L,k,N⟩))):=by
 open amx in exact adK
theorem I8 (_K F T I L:Int) (k:ByteArray) (N:Int) (w:World) (hs:k.size<=maxLen) (hr:nP F T=true):Calls Tryz.prog 113 #[qg ⟨1,F,T,I,L,k,N⟩] w (fF w (.bool (bY ⟨1,F,T,I,L,k,N⟩))):=by
 open amw in exact adK
theorem I7 (_K F T I L:Int) (k:ByteArray) (N:Int) (w:World) (hs:k.size<=maxLen) (hr:nP F T=true):Calls Tryz.prog 113 #[qg ⟨2,F,T,I,L,k,N⟩] w (fF w (.bool (bY ⟨2,F,T,I,L,k,N⟩))):=by
 open amv in exact adK
theorem Gl (K F T I L:Int) (k:ByteArray) (N:Int) (w:World) (_hs:k.size<=maxLen) (hr:nP F T=true) (k0:¬K=0) (k1:¬K=1) (k2:¬K=2):Calls Tryz.prog 113 #[qg ⟨K,F,T,I,L,k,N⟩] w (fF w (.bool (bY ⟨K,F,T,I,L,k,N⟩))):=by
 open amu in exact adK
theorem kX (m:Mg) (w:World) (hs:m.k.size<=maxLen):Calls Tryz.prog 113 #[qg m] w (fF w (.bool (bY m))):=by
 obtain⟨K,F,T,I,L,k,N⟩:=m;cases hr:nP F T
 .exact Eb K F T I L k N w hs hr
 by_cases k0:K=0
 .subst k0;exact Gn 0 F T I L k N w hs hr
 by_cases k1:K=1
 .subst k1;exact I8 0 F T I L k N w hs hr
 by_cases k2:K=2
 .subst k2;exact I7 0 F T I L k N w hs hr
 exact Gl K F T I L k N w hs hr k0 k1 k2
end Go.Proofs.YtacgbldlonoaaaaGreatDoor
