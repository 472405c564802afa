/- Parts. -/
import Derived.Test.YtacgbldlonoaaaaGreatDoorRr2
import Derived.Test.YtacgbldlonoaaaaGreatDoorRr7
namespace Go.Proofs.YtacgbldlonoaaaaGreatDoor
namespace Mth
structure kC where
 i:Int
 t:Int
 k:ByteArray
 n:Int
structure Sn where
 f:Int
 l:Int
 ids:List Int
structure Rq where
 no:Int
 k:ByteArray
 n:Int
 s:Int
structure Nd where
 id:Int
 par:Int
 kids:List Int
 next:Int
 pu:List Pu
 out:List kC
 seen:List Sn
 old:Int
 reqs:List Rq
instance:Inhabited kC:=⟨⟨0,0,ByteArray.empty,0⟩⟩
instance:Inhabited Sn:=⟨⟨0,0,[]⟩⟩
instance:Inhabited Rq:=⟨⟨0,ByteArray.empty,0,0⟩⟩
abbrev aW (x:Int):List Value:=[.int .i64 x]
abbrev aR (s:kC):List Value:=[.int .i64 s.i,.int .i64 s.t,.string s.k,.int .i64 s.n]
abbrev aM (r:Rq):List Value:=[.int .i64 r.no,.string r.k,.int .i64 r.n,.int .i64 r.s]
theorem aQ (x:Int):(aW x).length=1:=rfl
theorem cZ (x:kC):(aR x).length=4:=rfl
theorem bg (x:Rq):(aM x).length=4:=rfl
def gQ {α:Type} (p:α->Bool) (r:α->α->Bool):List α->Bool
 |[]=>true
 |[x]=>p x
 |x::y::l=>p x&&r x y&&gQ p r (y::l)
section
variable {α:Type} (p:α->Bool) (r:α->α->Bool)
theorem mW (x:α) (l:List α):gQ p r (x::l)=(p x&&(match l.head? with|none=>true|some y=>r x y)&&gQ p r l):=by
 cases l with
 |nil=>simp[gQ]
 |cons y l=>simp[gQ]
theorem LK (l:List α) (x:α):gQ p r (l++[x])=(gQ p r l&&(p x&&(match l.getLast? with|none=>true|some y=>r y x))):=by
 induction l with
 |nil=>simp[gQ]
 |cons y l ih=>
  rw [List.cons_append,mW,ih,mW]
  cases l with
  |nil=>simp[gQ,Bool.and_comm,Bool.and_left_comm]
  |cons z l=>simp[Bool.and_assoc]
theorem PE (l m:List α):gQ p r (l++m)=true->gQ p r l=true:=by
 induction l with
 |nil=>simp[gQ]
 |cons y l ih=>
  intro h
  rw [List.cons_append,mW] at h
  rw [mW]
  simp only[Bool.and_eq_true] at h ⊢
  refine⟨⟨h.1.1,?_⟩,ih h.2⟩
  cases l with
  |nil=>simp
  |cons z l=>simpa using h.1.2
theorem qE (l:List α) (h:0 < l.length):gQ p r (l.take 1)=p l[0]:=by
 match l,h with
 |x::l,_=>simp[gQ]
theorem uo (l:List α) (k:Nat) (h:k+1 < l.length):gQ p r (l.take (k+2))=(gQ p r (l.take (k+1))&&(p l[k+1]&&r l[k] l[k+1])):=by
 rw [List.take_succ_eq_append_getElem h,LK]
 have e:(l.take (k+1)).getLast?=some l[k]:=by
  rw [List.take_succ_eq_append_getElem Aaa,List.getLast?_append];simp
 rw [e]
theorem nR (l:List α) (k:Nat) (h:gQ p r (l.take k)=false):gQ p r l=false:=by
 cases hc:gQ p r l with
 |false=>rfl
 |true=>
  rw [<-List.take_append_drop k l] at hc
  rw [PE p r _ _ hc] at h
  cases h
end
def jo (id par x:Int):Bool:=rF x&&decide (x≠id)&&decide (x≠par)
def iA (x y:Int):Bool:=decide (x < y)
def dZ (n:Nd):Bool:=rF n.id&&decide (-1<=n.par/\n.par<=29)&&decide (n.par≠n.id)&&decide (n.kids.length<=30)&&gQ (jo n.id n.par) iA n.kids
def hasB (l:List Int) (x:Int):Bool:=l.any λy=>decide (y=x)
def dV (n:Nd) (x:Int):Bool:=(decide (0<=x)&&decide (x=n.par))||hasB n.kids x
def zf (low x:Int):Bool:=decide (low<=x/\x<=1000000000)
def uh (s:Sn):Bool:=fD s.l&&decide (s.ids.length<=40)&&gQ (zf s.l) iA s.ids
def nC (n:Nd):Bool:=decide ((n.seen.length:Int)=n.kids.length+(if 0<=n.par then 1 else 0))&&gQ (λs=>dV n s.f&&uh s) (λs t=>iA s.f t.f) n.seen
def tX (n:Nd) (o:kC):Bool:=decide (1<=o.i/\o.i<=n.next - 1)&&dV n o.t&&keyOk o.k.data.toList&&fD o.n
def qU (n:Nd) (q:Rq):Bool:=decide (n.old+1<=q.no/\q.no<=1000000000)&&keyOk q.k.data.toList&&fD q.n&&decide (0<=q.s/\q.s<=2)
def qO (n:Nd):Bool:=decide (n.out.length<=40)&&gQ (tX n) (λs t=>iA s.i t.i) n.out
def gP (n:Nd):Bool:=pz n.old&&decide (n.reqs.length<=30)&&gQ (qU n) (λs t=>iA s.no t.no) n.reqs
def dU (n:Nd):Bool:=dZ n&&iW n.pu&&nC n&&fD n.next&&qO n&&gP n
end Mth
namespace Mth
def vV {α:Type} (key:α->Int) (y0:Int) (l:List α):Int:=(l.getLast?.map key).getD y0
theorem rX {α:Type} (key:α->Int) (y0:Int) (l:List α) (k:Nat) (h:k < l.length):vV key y0 (l.take (k+1))=key l[k]:=by
 unfold vV;rw [List.take_succ_eq_append_getElem h,List.getLast?_append];simp
theorem xM {α:Type} (p:α->Bool) (key:α->Int) (y0:Int) (hp:∀x,p x=true->y0 < key x) (l:List α) (k:Nat) (h:k < l.length):
 gQ p (λs t=>iA (key s) (key t)) (l.take (k+1))=(gQ p (λs t=>iA (key s) (key t)) (l.take k)&&(p l[k]&&decide (vV key y0 (l.take k) < key l[k]))):=by
 rw [List.take_succ_eq_append_getElem h,LK];unfold vV;cases hg:(l.take k).getLast? with
 |none=>
  cases hx:p l[k] with
  |false=>simp
  |true=>simp[hp _ hx]
 |some y=>simp[iA]
theorem xO {α:Type} {p:α->Bool} {r:α->α->Bool} {l:List α} (h:gQ p r l=true):∀x∈l,p x=true:=by
 induction l with
 |nil=>intro x hx;simp at hx
 |cons y l ih=>
  rw [mW] at h
  simp only[Bool.and_eq_true] at h
  intro x hx
  rcases List.mem_cons.1 hx with rfl|hx
  .exact h.1.1
  .exact ih h.2 x hx
theorem zC {α:Type} {p:α->Bool} {r:α->α->Bool} {key:α->Int} {y0:Int} {l:List α} (hp:∀x,p x=true->y0 < key x) (h:gQ p r l=true):y0<=vV key y0 l:=by
 unfold vV;cases hg:l.getLast? with
 |none=>simp
 |some y=>
  have:=hp y (xO h y (List.mem_of_getLast? hg))
  simp
  omega
theorem rJ {α:Type} {p:α->Bool} {r:α->α->Bool} (ht:∀a b c,r a b=true->r b c=true->r a c=true) {l:List α}:gQ p r l=true↔(∀x∈l,p x=true)/\l.Pairwise (λa b=>r a b=true):=by
 induction l with
 |nil=>simp[gQ]
 |cons x l ih=>
  rw [mW]
  simp only[Bool.and_eq_true,ih,List.pairwise_cons,List.mem_cons,forall_eq_or_imp]
  constructor
  .rintro⟨⟨h1,h2⟩,h3,h4⟩;refine⟨⟨h1,h3⟩,?_,h4⟩;cases l with
   |nil=>intro a ha;simp at ha
   |cons y l=>
    simp only[List.head?_cons] at h2
    intro a ha
    rcases List.mem_cons.1 ha with rfl|ha
    .exact h2
    .exact ht x y a h2 ((List.pairwise_cons.1 h4).1 a ha)
  .rintro⟨⟨h1,h3⟩,h2,h4⟩;refine⟨⟨h1,?_⟩,h3,h4⟩;cases l with
   |nil=>simp
   |cons y l=>exact h2 y Aac
theorem aaT {α:Type} {p q:α->Bool} {r:α->α->Bool} {l:List α}:gQ (λx=>p x&&q x) r l=(gQ p r l&&l.all q):=by
 induction l with
 |nil=>simp[gQ]
 |cons x l ih=>
  rw [mW,ih,mW,List.all_cons]
  generalize p x=a
  generalize q x=b
  generalize gQ p r l=d
  generalize l.all q=e
  cases a<;>cases b<;>cases d<;>cases e<;>simp
theorem XD:∀(B A:List Int),A.Pairwise (· < ·)->B.Pairwise (· < ·)->(∀x∈A,x∈B)->A.length<=B.length:=by
 intro B;induction B with
 |nil=>
  intro A _ _ hs
  cases A with
  |nil=>simp
  |cons a A=>exact absurd (hs a Aac) Aac
 |cons b B ih=>
  intro A hA hB hs
  cases A with
  |nil=>simp
  |cons a A=>
   have hA':=List.pairwise_cons.1 hA
   have hB':=List.pairwise_cons.1 hB
   by_cases hab:a=b
   .subst hab
    have:=ih A hA'.2 hB'.2 (λx hx=>by
     rcases List.mem_cons.1 (hs x (List.mem_cons_of_mem _ hx)) with h|h
     .have:=hA'.1 x hx;omega
     .exact h)
    simp;omega
   .have haB:a∈B:=by
     exact aem
    have hba:=hB'.1 a haB
    have:=ih (a::A) hA hB'.2 (λx hx=>by
     rcases List.mem_cons.1 (hs x hx) with h|h
     .exact aeu
     .exact h)
    simp at this ⊢;omega
theorem afO:∀(B A:List Int),A.Pairwise (· < ·)->B.Pairwise (· < ·)->(∀x∈A,x∈B)->B.length<=A.length->A=B:=by
 intro B;induction B with
 |nil=>
  intro A _ _ hs _
  cases A with
  |nil=>rfl
  |cons a A=>exact absurd (hs a Aac) Aac
 |cons b B ih=>
  intro A hA hB hs hl
  cases A with
  |nil=>simp at hl
  |cons a A=>
   have hA':=List.pairwise_cons.1 hA
   have hB':=List.pairwise_cons.1 hB
   by_cases hab:a=b
   .subst hab
    rw [ih A hA'.2 hB'.2 (λx hx=>by
     rcases List.mem_cons.1 (hs x (List.mem_cons_of_mem _ hx)) with h|h
     .have:=hA'.1 x hx;omega
     .exact h) Aci]
   .have haB:a∈B:=by
     exact aem
    have hba:=hB'.1 a haB
    have:=XD B (a::A) hA hB'.2 (λx hx=>by
     rcases List.mem_cons.1 (hs x hx) with h|h
     .exact aeu
     .exact h)
    simp at this hl;omega
def pQ (n:Nd):List Int:=n.kids++(if n.par= -1 then[] else[n.par])
def U9 (l:List Int):List Int:=l.mergeSort λx y=>decide (x<=y)
theorem oU (l:List Int):(U9 l).length=l.length:=List.length_mergeSort l
theorem Kh (l:List Int) (x:Int):x∈U9 l↔x∈l:=(List.mergeSort_perm l _).mem_iff
theorem abA {l:List Int} (h:l.Nodup):(U9 l).Pairwise (· < ·):=by
 have h1:(U9 l).Pairwise (λx y=>decide (x<=y)=true):=List.pairwise_mergeSort (le:=λx y:Int=>decide (x<=y)) (λa b c h1 h2=>by simp at *;omega) (λa b=>Aag) l;have h2:(U9 l).Nodup:=(List.mergeSort_perm l _).symm.nodup h;exact(h1.and h2).imp (λ{a b} h=>by have:=of_decide_eq_true h.1;have:=h.2;omega)
theorem xU (l:List Int) (x:Int):hasB l x=true↔x∈l:=by
 unfold hasB;rw [List.any_eq_true];constructor
 .rintro⟨y,hy,h⟩;have:=of_decide_eq_true h;subst this;exact hy
 .intro h;exact⟨x,h,Aac⟩
theorem mD (a b c:Int) (h1:iA a b=true) (h2:iA b c=true):iA a c=true:=by
 unfold iA at *;simp at *;omega
theorem oI {n:Nd} (h:dZ n=true):(∀x∈n.kids,jo n.id n.par x=true)/\n.kids.Pairwise (· < ·)/\ -1<=n.par:=by
 unfold dZ at h;simp only[Bool.and_eq_true] at h;obtain⟨h1,h2⟩:=(rJ (r:=iA) mD).1 h.2;exact⟨h1,h2.imp (λ{a b} h=>of_decide_eq_true h),(of_decide_eq_true h.1.1.1.2).1⟩
theorem Qo {n:Nd} (h:dZ n=true):(pQ n).Nodup:=by
 obtain⟨h1,h2,_⟩:=oI h;have h3:n.kids.Nodup:=h2.imp (λ{a b} h=>Aaa);unfold pQ;split
 .simpa using h3
 .rw [List.nodup_append];refine⟨h3,Aac,?_⟩;intro a ha b hb;have hb':b=n.par:=by simpa using hb
  have:=h1 a ha;unfold jo at this;simp only[Bool.and_eq_true,decide_eq_true_eq] at this;rw [hb'];exact this.2
theorem DJ {n:Nd} (h:dZ n=true) (x:Int):dV n x=true↔x∈pQ n:=by
 obtain⟨h1,_,h3⟩:=oI h;unfold dV pQ;rw [Bool.or_eq_true,xU,List.mem_append];constructor
 .rintro(h|h)
  .simp only[Bool.and_eq_true,decide_eq_true_eq] at h;right
   rw [if_neg Aaa];simp[h.2]
  .exact .inl h
 .rintro(h|h)
  .exact .inr h
  .left
   split at h
   .simp at h
   .have:x=n.par:=Abi
    exact Xu
theorem uF {n:Nd} (h:dZ n=true):((pQ n).length:Int)=n.kids.length+(if 0<=n.par then 1 else 0):=by
 obtain⟨_,_,h3⟩:=oI h;unfold pQ;by_cases hp:n.par= -1
 .rw [if_pos hp,if_neg Aaa];simp
 .rw [if_neg hp,if_pos Aaa];simp
theorem vH {n:Nd} (hp:dZ n=true):nC n=(decide (n.seen.map (·.f)=U9 (pQ n))&&n.seen.all uh):=by
 have hnd:=Qo hp;have hsr:=abA hnd;unfold nC;rw [aaT,<-uF hp,<-Bool.and_assoc];congr 1
 rw [Bool.eq_iff_iff,Bool.and_eq_true,decide_eq_true_iff,decide_eq_true_iff,rJ (λa b c h1 h2=>mD a.f b.f c.f h1 h2)];constructor
 .rintro⟨h1,h2,h3⟩;refine afO _ _ ?_ hsr ?_ ?_
  .rw [List.pairwise_map];exact h3.imp (λ{a b} h=>of_decide_eq_true h)
  .intro x hx;obtain⟨s,hs,rfl⟩:=List.mem_map.1 hx;rw [Kh];exact(DJ hp _).1 (h2 s hs)
  .rw [oU,List.length_map];omega
 .intro h;refine⟨?_,?_,?_⟩
  .have:=congrArg List.length h;rw [oU,List.length_map] at this;omega
  .intro s hs;rw [DJ hp,<-Kh,<-h];exact List.mem_map.2 ⟨s,hs,rfl⟩
  .rw [<-h,List.pairwise_map] at hsr;exact hsr.imp (λ{a b} h=>decide_eq_true h)
end Mth
open Go.RowKit
theorem aU {w:World} {g:Nat} {a0 a1 a2 a3 a4 a5 a6 a7 a8 a9 Pv:Value} {t:TypeId} (h:w.heap[g]?=some (.cells #[a0,a1,a2,a3,a4,a5,a6,a7,a8,a9,Pv] t (0,0))):
 (w.cell? ⟨g,0,none⟩=some a0/\w.cell? ⟨g,1,none⟩=some a1/\w.cell? ⟨g,2,none⟩=some a2/\w.cell? ⟨g,3,none⟩=some a3/\w.cell? ⟨g,4,none⟩=some a4/\w.cell? ⟨g,5,none⟩=some a5/\w.cell? ⟨g,6,none⟩=some a6/\w.cell? ⟨g,7,none⟩=some a7/\w.cell? ⟨g,8,none⟩=some a8/\w.cell? ⟨g,9,none⟩=some a9/\w.cell? ⟨g,10,none⟩=some Pv)/\(w.frozen? ⟨g,0,none⟩=false/\w.frozen? ⟨g,1,none⟩=false/\w.frozen? ⟨g,2,none⟩=false/\w.frozen? ⟨g,3,none⟩=false/\w.frozen? ⟨g,4,none⟩=false/\w.frozen? ⟨g,5,none⟩=false/\w.frozen? ⟨g,6,none⟩=false/\w.frozen? ⟨g,7,none⟩=false/\w.frozen? ⟨g,8,none⟩=false/\w.frozen? ⟨g,9,none⟩=false/\w.frozen? ⟨g,10,none⟩=false):=by
 have hf:∀i,w.frozen? ⟨g,i,none⟩=false:=λi=>by unfold World.frozen?;rw [h];simp
 have hc:∀i,w.cell? ⟨g,i,none⟩=#[a0,a1,a2,a3,a4,a5,a6,a7,a8,a9,Pv][i]?:=λi=>cell_of_row w g i _ t (0,0) h
 exact⟨⟨hc 0,hc 1,hc 2,hc 3,hc 4,hc 5,hc 6,hc 7,hc 8,hc 9,hc 10⟩,hf 0,hf 1,hf 2,hf 3,hf 4,hf 5,hf 6,hf 7,hf 8,hf 9,hf 10⟩
theorem lZ {w:World} {g:Nat} {a0 a1 a2 a3 a4 a5 a6 a7 a8 a9 Pv b0 b1 b2 b3 b4 b5 b6 b7 b8 b9 b10:Value} {t:TypeId} (h:w.heap[g]?=some (.cells #[a0,a1,a2,a3,a4,a5,a6,a7,a8,a9,Pv] t (0,0))):(((((((((((w.setCell ⟨g,0,none⟩ b0).setCell ⟨g,1,none⟩ b1).setCell ⟨g,2,none⟩ b2).setCell ⟨g,3,none⟩ b3).setCell ⟨g,4,none⟩ b4).setCell ⟨g,5,none⟩ b5).setCell ⟨g,6,none⟩ b6).setCell ⟨g,7,none⟩ b7).setCell ⟨g,8,none⟩ b8).setCell ⟨g,9,none⟩ b9).setCell ⟨g,10,none⟩ b10).heap[g]?=some (.cells #[b0,b1,b2,b3,b4,b5,b6,b7,b8,b9,b10] t (0,0)):=
 GR.setW_blk [b0,b1,b2,b3,b4,b5,b6,b7,b8,b9,b10] (o:=0) (xs:=[a0,a1,a2,a3,a4,a5,a6,a7,a8,a9,Pv]) h
theorem iV {a w:World} {B g:Nat} {b0 b1 b2 b3 b4 b5 b6 b7 b8 b9 b10:Value} (h:Below B a w) (hg:B<=g):Below B a (((((((((((w.setCell ⟨g,0,none⟩ b0).setCell ⟨g,1,none⟩ b1).setCell ⟨g,2,none⟩ b2).setCell ⟨g,3,none⟩ b3).setCell ⟨g,4,none⟩ b4).setCell ⟨g,5,none⟩ b5).setCell ⟨g,6,none⟩ b6).setCell ⟨g,7,none⟩ b7).setCell ⟨g,8,none⟩ b8).setCell ⟨g,9,none⟩ b9).setCell ⟨g,10,none⟩ b10):=
 GR.setW_below hg [b0,b1,b2,b3,b4,b5,b6,b7,b8,b9,b10] (o:=0) h
theorem iJ {P:Program} {fn:Func} {Q:Ending->World->Prop} {x:Exit} {act:Act} {W:World} (h:∀W',W'=W->bodyPost P fn Q x act W'):bodyPost P fn Q x act W:=h W rfl
theorem iw (w:World) (a b:Obj):((w.alloc a).alloc b).heap[w.heap.size]?=some a/\((w.alloc a).alloc b).heap[w.heap.size+1]?=some b/\Below w.heap.size w ((w.alloc a).alloc b):=by
 have e1:(w.alloc a).heap.size=w.heap.size+1:=Aac
 have h4:=heap_alloc_new (w.alloc a) b;have h6:=Below.heap_alloc (w.alloc a) b w.heap.size Aaa;rw [e1] at h4;exact⟨h6.trans (heap_alloc_new w a),h4,(aj w a).alloc Aaa b⟩
end Go.Proofs.YtacgbldlonoaaaaGreatDoor
