/- Parts. -/
import Derived.Test.YtohmklmkjmlpjaaGreatDoorRc6
import Derived.Test.YtohmklmkjmlpjaaGreatDoorRc3
namespace Go.Proofs.YtohmklmkjmlpjaaGreatDoor
open Go.Proofs.Tryz
set_option maxHeartbeats 4000000
namespace Mth
structure jM where
 i:Int
 t:Int
 k:ByteArray
 n:Int
structure Sn where
 f:Int
 l:Int
 ids:List Int
structure Rq where
 no:Int
 k:ByteArray
 n:Int
 s:Int
structure Nd where
 id:Int
 par:Int
 kids:List Int
 next:Int
 pu:List Pu
 out:List jM
 seen:List Sn
 old:Int
 reqs:List Rq
instance:Inhabited jM:=⟨⟨0,0,ByteArray.empty,0⟩⟩
instance:Inhabited Sn:=⟨⟨0,0,[]⟩⟩
instance:Inhabited Rq:=⟨⟨0,ByteArray.empty,0,0⟩⟩
abbrev aS (x:Int):List Value:=[.int .i64 x]
abbrev aM (s:jM):List Value:=[.int .i64 s.i,.int .i64 s.t,.string s.k,.int .i64 s.n]
abbrev aJ (r:Rq):List Value:=[.int .i64 r.no,.string r.k,.int .i64 r.n,.int .i64 r.s]
theorem aO (x:Int):(aS x).length=1:=rfl
theorem aZ (x:jM):(aM x).length=4:=rfl
theorem aN (x:Rq):(aJ x).length=4:=rfl
def iA {α:Type} (p:α->Bool) (r:α->α->Bool):List α->Bool
 |[]=>true
 |[x]=>p x
 |x::y::l=>p x&&r x y&&iA p r (y::l)
section
variable {α:Type} (p:α->Bool) (r:α->α->Bool)
theorem oq (x:α) (l:List α):iA p r (x::l)=(p x&&(match l.head? with|none=>true|some y=>r x y)&&iA p r l):=by
 cases l with
 |nil=>simp[iA]
 |cons y l=>simp[iA]
theorem Pp (l:List α) (x:α):iA p r (l++[x])=(iA p r l&&(p x&&(match l.getLast? with|none=>true|some y=>r y x))):=by
 induction l with
 |nil=>simp[iA]
 |cons y l ih=>
  rw [List.cons_append,oq,ih,oq];cases l with
  |nil=>simp[iA,Bool.and_comm,Bool.and_left_comm]
  |cons z l=>simp[Bool.and_assoc]
theorem TP (l m:List α):iA p r (l++m)=true->iA p r l=true:=by
 induction l with
 |nil=>simp[iA]
 |cons y l ih=>
  intro h;rw [List.cons_append,oq] at h;rw [oq];simp only[aGl] at h ⊢;refine⟨⟨h.1.1,?_⟩,ih h.2⟩;cases l with
  |nil=>simp
  |cons z l=>simpa using h.1.2
theorem sJ (l:List α) (h:0 < l.length):iA p r (l.take 1)=p l[0]:=by
 match l,h with
 |x::l,_=>simp[iA]
theorem wD (l:List α) (k:Nat) (h:k+1 < l.length):iA p r (l.take (k+2))=(iA p r (l.take (k+1))&&(p l[k+1]&&r l[k] l[k+1])):=by
 rw [aGt h,Pp]
 have e:(l.take (k+1)).getLast?=some l[k]:=by
  rw [aGt Aaa,List.getLast?_append];simp
 rw [e]
theorem pX (l:List α) (k:Nat) (h:iA p r (l.take k)=false):iA p r l=false:=by
 cases hc:iA p r l with
 |false=>rfl
 |true=>
  rw [<-aGW k l] at hc;rw [TP p r _ _ hc] at h;cases h
end
def kW (id par x:Int):Bool:=uU x&&decide (x≠id)&&decide (x≠par)
def iX (x y:Int):Bool:=decide (x < y)
def eO (n:Nd):Bool:=uU n.id&&decide (-1<=n.par/\n.par<=29)&&decide (n.par≠n.id)&&decide (n.kids.length<=30)&&iA (kW n.id n.par) iX n.kids
def hasB (l:List Int) (x:Int):Bool:=l.any λy=>decide (y=x)
def eD (n:Nd) (x:Int):Bool:=(decide (0<=x)&&decide (x=n.par))||hasB n.kids x
def Cj (low x:Int):Bool:=decide (low<=x/\x<=1000000000)
def wu (s:Sn):Bool:=fO s.l&&decide (s.ids.length<=40)&&iA (Cj s.l) iX s.ids
def oL (n:Nd):Bool:=decide ((n.seen.length:Int)=n.kids.length+(if 0<=n.par then 1 else 0))&&iA (λs=>eD n s.f&&wu s) (λs t=>iX s.f t.f) n.seen
def vW (n:Nd) (o:jM):Bool:=decide (1<=o.i/\o.i<=n.next - 1)&&eD n o.t&&keyOk o.k.data.toList&&fO o.n
def tN (n:Nd) (q:Rq):Bool:=decide (n.old+1<=q.no/\q.no<=1000000000)&&keyOk q.k.data.toList&&fO q.n&&decide (0<=q.s/\q.s<=2)
def tC (n:Nd):Bool:=decide (n.out.length<=40)&&iA (vW n) (λs t=>iX s.i t.i) n.out
def iC (n:Nd):Bool:=rz n.old&&decide (n.reqs.length<=30)&&iA (tN n) (λs t=>iX s.no t.no) n.reqs
def eH (n:Nd):Bool:=eO n&&jD n.pu&&oL n&&fO n.next&&tC n&&iC n
end Mth
set_option maxRecDepth 100000
open Go.RowKit
open Mth
abbrev aH (w:World) (a:Option Addr) (l:List Pu):Prop:=GR.At fD 4 w a l
theorem aH.four {w:World} {a:Option Addr} {l:List Pu} (h:aH w a l) (i:Nat) (hi:i < l.length):∃g off,a=some ⟨g,off,none⟩/\g < w.heap.size/\w.cell? ⟨g,off+i*4,none⟩=some (.string l[i].k)/\w.cell? ⟨g,off+i*4+1,none⟩=some (.int .i64 l[i].m)/\w.cell? ⟨g,off+i*4+2,none⟩=some (.int .i64 l[i].f)/\w.cell? ⟨g,off+i*4+3,none⟩=some (.int .i64 l[i].s):=by
 exact ak3
theorem aBn (s:ByteArray) (b:Bool) (hs:s.size<=maxLen) (hb:keyOk s.data.toList=b) (W:World) (n:Nat):Calls Tryz.prog 52 #[.string s] (W.drewN n) λe w''=>e= .returned (.bool b)/\∃m,w''=W.drewN m:=by
 rw [<-hb];exact(K8 s _ hs).mono λe w' ⟨he,hw⟩=>⟨he,n,hw.symm⟩
theorem qAm (x:Int) (b:Bool) (hb:decide (yI x 0 1000000000)=b) (W:World) (n:Nat):Calls Tryz.prog 50 #[.int .i64 x] (W.drewN n) λe w''=>e= .returned (.bool b)/\∃m,w''=W.drewN m:=by
 rw [<-hb];exact(xC x _).mono λe w' ⟨he,hw⟩=>⟨he,n,hw.symm⟩
theorem qc (a:Option Addr) (cap:Nat) (l:List Pu) (w:World) (hl:l.length<=1048600) (hk:∀p∈l,p.k.size<=maxLen) (ha:aH w a l):
 Calls Tryz.prog 47 #[.slice a l.length cap] w (dZ w (.bool (jD l))):=by
 have HA:=Hq ha;have HK:=Hq hk;clear ha hk;go_in
 go_wp2_with fail;go_loopw [3] (λi wr=>∃k:Nat,k<=l.length/\i= .int .i64 k/\(List.range k).all (oC l)=true/\aI w wr) (λi _=>l.length - (intOf i).toNat)
 case atStart=>exact aby
 case round=>
  obtain⟨k,hk,rfl,hall,hbel⟩:=hrel;have dS:=Hq hbel;have jG:=Hq hall;clear hall hbel;by_cases hlt:k < l.length
  .have hks:=ah HK l[k] (aGz hlt);open aqX in exact ayI
  .exact aij
theorem wS (a:Option Addr) (cap:Nat) (l:List Pu) (key:ByteArray) (w:World) (hl:l.length<=1048600) (ha:aH w a l):
 Calls Tryz.prog 151 #[.slice a l.length cap,.string key] w (dZ w (xW (aD l key))):=by
 have HA:=Hq ha;clear ha;go_in
 go_wp2_with fail;go_loopw [5] (λi wr=>∃k:Nat,k<=l.length/\i= .int .i64 k/\(l.take k).find? (λp=>p.k.toList == key.toList)=none/\wr=w.alloc (.cells (jh ⟨#[]⟩ 0 0 0) 108)) (λi _=>l.length - (intOf i).toNat)
 case atStart=>exact⟨0,aGB _,rfl,rfl,rfl⟩
 case round=>
  obtain⟨k,hk,rfl,hnone,rfl⟩:=hrel;have HN:=Hq hnone;clear hnone;by_cases hlt:k < l.length
  .obtain⟨g,off,rfl,hgw,c0,c1,c2,c3⟩:=aH.four HA k hlt;have hfs:=J6 (λp=>p.k.toList == key.toList) l k hlt HN;cases hf:l[k].k.toList == key.toList
   .have HX:=Hq (hfs.2 hf);clear hfs HN;open axK in exact aa3
   .have HX:=Hq (show aD l key=l[k] by unfold aD;rw [hfs.1 hf];rfl);clear hfs HN;open axJ in exact aa3
  .open an5 in exact vT
theorem gu {w:World} {g:Nat} {a0 a1 a2 a3:Value} {t:TypeId} (h:w.heap[g]?=some (.cells #[a0,a1,a2,a3] t (0,0))):
 (w.cell? ⟨g,0,none⟩=some a0/\w.cell? ⟨g,1,none⟩=some a1/\w.cell? ⟨g,2,none⟩=some a2/\w.cell? ⟨g,3,none⟩=some a3)/\(w.frozen? ⟨g,0,none⟩=false/\w.frozen? ⟨g,1,none⟩=false/\w.frozen? ⟨g,2,none⟩=false/\w.frozen? ⟨g,3,none⟩=false):=by
 have hc:∀i,w.cell? ⟨g,i,none⟩=#[a0,a1,a2,a3][i]?:=λi=>aGu w g i _ t (0,0) h
 have hf:∀i,w.frozen? ⟨g,i,none⟩=false:=λi=>by unfold World.frozen?;rw [h];simp
 exact⟨⟨hc 0,hc 1,hc 2,hc 3⟩,hf 0,hf 1,hf 2,hf 3⟩
namespace Mth
def yu {α:Type} (key:α->Int) (y0:Int) (l:List α):Int:=(l.getLast?.map key).getD y0
theorem uR {α:Type} (key:α->Int) (y0:Int) (l:List α) (k:Nat) (h:k < l.length):yu key y0 (l.take (k+1))=key l[k]:=by
 unfold yu;rw [aGt h,List.getLast?_append];simp
theorem zP {α:Type} (p:α->Bool) (key:α->Int) (y0:Int) (hp:∀x,p x=true->y0 < key x) (l:List α) (k:Nat) (h:k < l.length):
 iA p (λs t=>iX (key s) (key t)) (l.take (k+1))=(iA p (λs t=>iX (key s) (key t)) (l.take k)&&(p l[k]&&decide (yu key y0 (l.take k) < key l[k]))):=by
 rw [aGt h,Pp];unfold yu;cases hg:(l.take k).getLast? with
 |none=>
  cases hx:p l[k] with
  |false=>simp
  |true=>simp[hp _ hx]
 |some y=>simp[iX]
theorem zR {α:Type} {p:α->Bool} {r:α->α->Bool} {l:List α} (h:iA p r l=true):∀x∈l,p x=true:=by
 induction l with
 |nil=>intro x hx;simp at hx
 |cons y l ih=>
  rw [oq] at h;simp only[aGl] at h;intro x hx;rcases aGF.1 hx with rfl|hx
  .exact h.1.1
  .exact ih h.2 x hx
theorem BP {α:Type} {p:α->Bool} {r:α->α->Bool} {key:α->Int} {y0:Int} {l:List α} (hp:∀x,p x=true->y0 < key x) (h:iA p r l=true):y0<=yu key y0 l:=by
 unfold yu;cases hg:l.getLast? with
 |none=>simp
 |some y=>
  have:=hp y (zR h y (List.mem_of_getLast? hg));simp;omega
theorem uH {α:Type} {p:α->Bool} {r:α->α->Bool} (ht:∀a b c,r a b=true->r b c=true->r a c=true) {l:List α}:iA p r l=true↔(∀x∈l,p x=true)/\l.Pairwise (λa b=>r a b=true):=by
 induction l with
 |nil=>simp[iA]
 |cons x l ih=>
  rw [oq];simp only[aGl,ih,aGX,aGF,forall_eq_or_imp];constructor
  .rintro⟨⟨h1,h2⟩,h3,h4⟩;refine⟨⟨h1,h3⟩,?_,h4⟩;cases l with
   |nil=>intro a ha;simp at ha
   |cons y l=>
    simp only[List.head?_cons] at h2;intro a ha;rcases aGF.1 ha with rfl|ha
    .exact h2
    .exact ht x y a h2 ((aGX.1 h4).1 a ha)
  .rintro⟨⟨h1,h3⟩,h2,h4⟩;refine⟨⟨h1,?_⟩,h3,h4⟩;cases l with
   |nil=>simp
   |cons y l=>exact h2 y Aac
theorem ae7 {α:Type} {p q:α->Bool} {r:α->α->Bool} {l:List α}:iA (λx=>p x&&q x) r l=(iA p r l&&l.all q):=by
 induction l with
 |nil=>simp[iA]
 |cons x l ih=>
  rw [oq,ih,oq,List.all_cons];generalize p x=a;generalize q x=b;generalize iA p r l=d;generalize l.all q=e;cases a<;>cases b<;>cases d<;>cases e<;>simp
theorem abF:∀(B A:List Int),A.Pairwise (· < ·)->B.Pairwise (· < ·)->(∀x∈A,x∈B)->A.length<=B.length:=by
 intro B;induction B with
 |nil=>
  intro A _ _ hs;cases A with
  |nil=>simp
  |cons a A=>exact absurd (hs a Aac) Aac
 |cons b B ih=>
  intro A hA hB hs;cases A with
  |nil=>simp
  |cons a A=>
   have hA':=aGX.1 hA;have hB':=aGX.1 hB;by_cases hab:a=b
   .subst hab
    have:=ih A hA'.2 hB'.2 (λx hx=>by
     rcases aGF.1 (hs x (aHY _ hx)) with h|h
     .have:=hA'.1 x hx;omega
     .exact h)
    simp;omega
   .have haB:a∈B:=by
     exact ajw
    have hba:=hB'.1 a haB
    have:=ih (a::A) hA hB'.2 (λx hx=>by
     rcases aGF.1 (hs x hx) with h|h
     .exact ajD
     .exact h)
    simp at this ⊢;omega
theorem alb:∀(B A:List Int),A.Pairwise (· < ·)->B.Pairwise (· < ·)->(∀x∈A,x∈B)->B.length<=A.length->A=B:=by
 intro B;induction B with
 |nil=>
  intro A _ _ hs _;cases A with
  |nil=>rfl
  |cons a A=>exact absurd (hs a Aac) Aac
 |cons b B ih=>
  intro A hA hB hs hl;cases A with
  |nil=>simp at hl
  |cons a A=>
   have hA':=aGX.1 hA;have hB':=aGX.1 hB;by_cases hab:a=b
   .subst hab
    rw [ih A hA'.2 hB'.2 (λx hx=>by
     rcases aGF.1 (hs x (aHY _ hx)) with h|h
     .have:=hA'.1 x hx;omega
     .exact h) Aci]
   .have haB:a∈B:=by
     exact ajw
    have hba:=hB'.1 a haB
    have:=abF B (a::A) hA hB'.2 (λx hx=>by
     rcases aGF.1 (hs x hx) with h|h
     .exact ajD
     .exact h)
    simp at this hl;omega
def rC (n:Nd):List Int:=n.kids++(if n.par= -1 then[] else[n.par])
def ZF (l:List Int):List Int:=l.mergeSort λx y=>decide (x<=y)
theorem qV (l:List Int):(ZF l).length=l.length:=List.length_mergeSort l
theorem NW (l:List Int) (x:Int):x∈ZF l↔x∈l:=(List.mergeSort_perm l _).mem_iff
theorem af6 {l:List Int} (h:l.Nodup):(ZF l).Pairwise (· < ·):=by
 have h1:(ZF l).Pairwise (λx y=>decide (x<=y)=true):=List.pairwise_mergeSort (le:=λx y:Int=>decide (x<=y)) (λa b c h1 h2=>by simp at *;omega) (λa b=>Aag) l;have h2:(ZF l).Nodup:=(List.mergeSort_perm l _).symm.nodup h;exact(h1.and h2).imp (λ{a b} h=>by have:=aGw h.1;have:=h.2;omega)
theorem zZ (l:List Int) (x:Int):hasB l x=true↔x∈l:=by
 unfold hasB;rw [List.any_eq_true];constructor
 .rintro⟨y,hy,h⟩;have:=aGw h;subst this;exact hy
 .intro h;exact⟨x,h,Aac⟩
theorem nL (a b c:Int) (h1:iX a b=true) (h2:iX b c=true):iX a c=true:=by
 unfold iX at *;simp at *;omega
theorem qP {n:Nd} (h:eO n=true):(∀x∈n.kids,kW n.id n.par x=true)/\n.kids.Pairwise (· < ·)/\ -1<=n.par:=by
 unfold eO at h;simp only[aGl] at h;obtain⟨h1,h2⟩:=(uH (r:=iX) nL).1 h.2;exact⟨h1,h2.imp (λ{a b} h=>aGw h),(aGw h.1.1.1.2).1⟩
theorem UN {n:Nd} (h:eO n=true):(rC n).Nodup:=by
 obtain⟨h1,h2,_⟩:=qP h;have h3:n.kids.Nodup:=h2.imp (λ{a b} h=>Aaa);unfold rC;split
 .simpa using h3
 .rw [aHp];refine⟨h3,Aac,?_⟩;intro a ha b hb;have hb':b=n.par:=by simpa using hb
  have:=h1 a ha;unfold kW at this;simp only[aGl,aGy] at this;rw [hb'];exact this.2
theorem Ga {n:Nd} (h:eO n=true) (x:Int):eD n x=true↔x∈rC n:=by
 obtain⟨h1,_,h3⟩:=qP h;unfold eD rC;rw [Bool.or_eq_true,zZ,aGE];constructor
 .rintro(h|h)
  .simp only[aGl,aGy] at h;right
   rw [aGr Aaa];simp[h.2]
  .exact .inl h
 .rintro(h|h)
  .exact .inr h
  .left
   split at h
   .simp at h
   .have:x=n.par:=Abd
    exact abu
theorem wN {n:Nd} (h:eO n=true):((rC n).length:Int)=n.kids.length+(if 0<=n.par then 1 else 0):=by
 obtain⟨_,_,h3⟩:=qP h;unfold rC;by_cases hp:n.par= -1
 .rw [aGC hp,aGr Aaa];simp
 .rw [aGr hp,aGC Aaa];simp
theorem xM {n:Nd} (hp:eO n=true):oL n=(decide (n.seen.map (·.f)=ZF (rC n))&&n.seen.all wu):=by
 have hnd:=UN hp;have hsr:=af6 hnd;unfold oL;rw [ae7,<-wN hp,<-Bool.and_assoc];congr 1
 rw [aHu,aGl,aGR,aGR,uH (λa b c h1 h2=>nL a.f b.f c.f h1 h2)];constructor
 .rintro⟨h1,h2,h3⟩;refine alb _ _ ?_ hsr ?_ ?_
  .rw [List.pairwise_map];exact h3.imp (λ{a b} h=>aGw h)
  .intro x hx;obtain⟨s,hs,rfl⟩:=aHQ.1 hx;rw [NW];exact(Ga hp _).1 (h2 s hs)
  .rw [qV,aHi];omega
 .intro h;refine⟨?_,?_,?_⟩
  .have:=congrArg List.length h;rw [qV,aHi] at this;omega
  .intro s hs;rw [Ga hp,<-NW,<-h];exact aHQ.2 ⟨s,hs,rfl⟩
  .rw [<-h,List.pairwise_map] at hsr;exact hsr.imp (λ{a b} h=>aGk h)
end Mth
end Go.Proofs.YtohmklmkjmlpjaaGreatDoor
