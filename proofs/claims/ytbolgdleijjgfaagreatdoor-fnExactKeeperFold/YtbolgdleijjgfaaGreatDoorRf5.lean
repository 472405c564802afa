/- Parts. -/
import Derived.Test.YtbolgdleijjgfaaGreatDoorRf4
import Derived.Test.YtbolgdleijjgfaaGreatDoorRf2
namespace Go.Proofs.YtbolgdleijjgfaaGreatDoor
open Go.Proofs.Tryz
set_option maxHeartbeats 2000000
namespace Mth
structure Mg where
 K:Int
 F:Int
 T:Int
 I:Int
 L:Int
 k:ByteArray
 N:Int
abbrev bX (K F T I L:Int) (k:ByteArray) (N:Int):Array Value:=#[.int .i64 K,.int .i64 F,.int .i64 T,.int .i64 I,.int .i64 L,.string k,.int .i64 N]
abbrev oJ (m:Mg):Value:= .agg #[.int .i64 m.K,.int .i64 m.F,.int .i64 m.T,.int .i64 m.I,.int .i64 m.L,.string m.k,.int .i64 m.N]
def uY (n:Int):Bool:=decide (0<=n/\n<=29)
def fJ (n:Int):Bool:=decide (1<=n/\n<=1000000000)
def nG (f t:Int):Bool:=uY f&&uY t&&decide (f≠t)
def bY (m:Mg):Bool:=
 nG m.F m.T&&
  (if m.K=0 then keyOk m.k.data.toList&&fJ m.N&&decide (m.I=0)&&decide (m.L=0)
   else if m.K=1 then keyOk m.k.data.toList&&fJ m.N&&fJ m.I&&decide (1<=m.L/\m.L<=m.I)
   else if m.K=2 then fJ m.I&&decide (m.k.size=0)&&decide (m.N=0)&&decide (m.L=0)
   else false)
end Mth
open Go.RowKit
open Mth
theorem wp_at {P:Program} {Q:Exit->Act->World->Prop} {c:Code} {a:Act} {W:World} (h:∀W',W'=W->Code.wp P c Q a W'):Code.wp P c Q a W:=h W rfl
theorem au (w:World) (o:Obj):Below w.heap.size w (w.alloc o):=(aE3 _ _).alloc (aER _) _
theorem KT {p:Prop} [Decidable p] (h:¬p):Ending.returned (.bool false)= .returned (.bool (decide p)):=by rw [aES h]
theorem Xh {p q:Prop} [Decidable p] [Decidable q] (h:p↔q):Ending.returned (.bool (decide p))= .returned (.bool (decide q)):=by rw [decide_eq_decide.2 h]
theorem zf (x a b:Int) (r:Bool) (w:World) (h:decide (a<=x/\x<=b)=r):Calls Tryz.prog 47 #[.int .i64 x,.int .i64 a,.int .i64 b] w λe w'=>e= .returned (.bool r)/\w=w':=by
 subst h;by_cases h:a<=x/\x<=b
 .rw [aET h];exact nP x a b w h.1 h.2
 .rw [aES h];exact qQ x a b w Aaa
theorem nZ (n:Int) (r:Bool) (w:World) (h:uY n=r):Calls Tryz.prog 121 #[.int .i64 n] w λe w'=>e= .returned (.bool r)/\w=w':=by
 go_in
 exact aiC
theorem eH (n:Int) (r:Bool) (w:World) (h:fJ n=r):Calls Tryz.prog 90 #[.int .i64 n] w λe w'=>e= .returned (.bool r)/\w=w':=by
 go_in
 exact aiC
theorem isNode (n:Int) (r:Bool) (w:World) (h:uY n=r):Calls Tryz.prog 187 #[.int .i64 n] w λe w'=>e= .returned (.bool r)/\w=w':=by
 subst h;by_cases h0:0<=n
 .go_in
  go_wp2
  go_ret;exact⟨Xh Aaa,rfl⟩
 .go_in
  go_wp2
  go_ret;exact⟨KT Aaa,rfl⟩
theorem aO (n:Int) (r:Bool) (w:World) (h:fJ n=r):Calls Tryz.prog 170 #[.int .i64 n] w λe w'=>e= .returned (.bool r)/\w=w':=by
 subst h;by_cases h0:1<=n
 .go_in
  go_wp2
  go_ret;exact⟨Xh Aaa,rfl⟩
 .go_in
  go_wp2
  go_ret;exact⟨KT Aaa,rfl⟩
theorem iC (s:ByteArray) (b:Bool) (w:World) (h:keyOk s.data.toList=b):Calls Tryz.prog 190 #[.string s] w λe w'=>e= .returned (.bool b)/\w=w':=by
 rw [<-h];exact Ki s w
theorem oW (s:ByteArray) (b:Bool) (w:World) (hs:s.size<=maxLen) (h:keyOk s.data.toList=b):Calls Tryz.prog 93 #[.string s] w λe w'=>e= .returned (.bool b)/\w=w':=by
 rw [<-h];exact K7 s w hs
namespace Mth
structure jI where
 i:Int
 t:Int
 k:ByteArray
 n:Int
structure Sn where
 f:Int
 l:Int
 ids:List Int
structure Rq where
 no:Int
 k:ByteArray
 n:Int
 s:Int
structure Nd where
 id:Int
 par:Int
 kids:List Int
 next:Int
 pu:List Pu
 out:List jI
 seen:List Sn
 old:Int
 reqs:List Rq
instance:Inhabited jI:=⟨⟨0,0,ByteArray.empty,0⟩⟩
instance:Inhabited Sn:=⟨⟨0,0,[]⟩⟩
instance:Inhabited Rq:=⟨⟨0,ByteArray.empty,0,0⟩⟩
abbrev bg (x:Int):List Value:=[.int .i64 x]
abbrev aM (s:jI):List Value:=[.int .i64 s.i,.int .i64 s.t,.string s.k,.int .i64 s.n]
abbrev aL (r:Rq):List Value:=[.int .i64 r.no,.string r.k,.int .i64 r.n,.int .i64 r.s]
theorem aX (x:Int):(bg x).length=1:=rfl
theorem aT (x:jI):(aM x).length=4:=rfl
theorem aW (x:Rq):(aL x).length=4:=rfl
def ig {α:Type} (p:α->Bool) (r:α->α->Bool):List α->Bool
 |[]=>true
 |[x]=>p x
 |x::y::l=>p x&&r x y&&ig p r (y::l)
section
variable {α:Type} (p:α->Bool) (r:α->α->Bool)
theorem oC (x:α) (l:List α):ig p r (x::l)=(p x&&(match l.head? with|none=>true|some y=>r x y)&&ig p r l):=by
 cases l with
 |nil=>simp[ig]
 |cons y l=>simp[ig]
theorem Pj (l:List α) (x:α):ig p r (l++[x])=(ig p r l&&(p x&&(match l.getLast? with|none=>true|some y=>r y x))):=by
 induction l with
 |nil=>simp[ig]
 |cons y l ih=>
  rw [List.cons_append,oC,ih,oC];cases l with
  |nil=>simp[ig,Bool.and_comm,Bool.and_left_comm]
  |cons z l=>simp[Bool.and_assoc]
theorem TF (l m:List α):ig p r (l++m)=true->ig p r l=true:=by
 induction l with
 |nil=>simp[ig]
 |cons y l ih=>
  intro h;rw [List.cons_append,oC] at h;rw [oC];simp only[aEX] at h ⊢;refine⟨⟨h.1.1,?_⟩,ih h.2⟩;cases l with
  |nil=>simp
  |cons z l=>simpa using h.1.2
theorem tu (l:List α) (h:0 < l.length):ig p r (l.take 1)=p l[0]:=by
 match l,h with
 |x::l,_=>simp[ig]
theorem wK (l:List α) (k:Nat) (h:k+1 < l.length):ig p r (l.take (k+2))=(ig p r (l.take (k+1))&&(p l[k+1]&&r l[k] l[k+1])):=by
 rw [aE0 h,Pj]
 have e:(l.take (k+1)).getLast?=some l[k]:=by
  rw [aE0 Aaa,List.getLast?_append];simp
 rw [e]
theorem qh (l:List α) (k:Nat) (h:ig p r (l.take k)=false):ig p r l=false:=by
 cases hc:ig p r l with
 |false=>rfl
 |true=>
  rw [<-aFJ k l] at hc;rw [TF p r _ _ hc] at h;cases h
end
def kU (id par x:Int):Bool:=uY x&&decide (x≠id)&&decide (x≠par)
def iR (x y:Int):Bool:=decide (x < y)
def eD (n:Nd):Bool:=uY n.id&&decide (-1<=n.par/\n.par<=29)&&decide (n.par≠n.id)&&decide (n.kids.length<=30)&&ig (kU n.id n.par) iR n.kids
def hasB (l:List Int) (x:Int):Bool:=l.any λy=>decide (y=x)
def dY (n:Nd) (x:Int):Bool:=(decide (0<=x)&&decide (x=n.par))||hasB n.kids x
def Ed (low x:Int):Bool:=decide (low<=x/\x<=1000000000)
def wD (s:Sn):Bool:=fJ s.l&&decide (s.ids.length<=40)&&ig (Ed s.l) iR s.ids
def oZ (n:Nd):Bool:=decide ((n.seen.length:Int)=n.kids.length+(if 0<=n.par then 1 else 0))&&ig (λs=>dY n s.f&&wD s) (λs t=>iR s.f t.f) n.seen
def wU (n:Nd) (o:jI):Bool:=decide (1<=o.i/\o.i<=n.next - 1)&&dY n o.t&&keyOk o.k.data.toList&&fJ o.n
def tY (n:Nd) (q:Rq):Bool:=decide (n.old+1<=q.no/\q.no<=1000000000)&&keyOk q.k.data.toList&&fJ q.n&&decide (0<=q.s/\q.s<=2)
def tJ (n:Nd):Bool:=decide (n.out.length<=40)&&ig (wU n) (λs t=>iR s.i t.i) n.out
def iw (n:Nd):Bool:=rM n.old&&decide (n.reqs.length<=30)&&ig (tY n) (λs t=>iR s.no t.no) n.reqs
def dV (n:Nd):Bool:=eD n&&jv n.pu&&oZ n&&fJ n.next&&tJ n&&iw n
end Mth
namespace Mth
def yK {α:Type} (key:α->Int) (y0:Int) (l:List α):Int:=(l.getLast?.map key).getD y0
theorem uV {α:Type} (key:α->Int) (y0:Int) (l:List α) (k:Nat) (h:k < l.length):yK key y0 (l.take (k+1))=key l[k]:=by
 unfold yK;rw [aE0 h,List.getLast?_append];simp
theorem Ah {α:Type} (p:α->Bool) (key:α->Int) (y0:Int) (hp:∀x,p x=true->y0 < key x) (l:List α) (k:Nat) (h:k < l.length):
 ig p (λs t=>iR (key s) (key t)) (l.take (k+1))=(ig p (λs t=>iR (key s) (key t)) (l.take k)&&(p l[k]&&decide (yK key y0 (l.take k) < key l[k]))):=by
 grind [yK,iR,Pj,List.take_succ_eq_append_getElem]
theorem Ai {α:Type} {p:α->Bool} {r:α->α->Bool} {l:List α} (h:ig p r l=true):∀x∈l,p x=true:=by
 induction l with
 |nil=>intro x hx;simp at hx
 |cons y l ih=>
  rw [oC] at h;simp only[aEX] at h;intro x hx;rcases aFd.1 hx with rfl|hx
  .exact h.1.1
  .exact ih h.2 x hx
theorem Cb {α:Type} {p:α->Bool} {r:α->α->Bool} {key:α->Int} {y0:Int} {l:List α} (hp:∀x,p x=true->y0 < key x) (h:ig p r l=true):y0<=yK key y0 l:=by
 unfold yK;cases hg:l.getLast? with
 |none=>simp
 |some y=>
  have:=hp y (Ai h y (List.mem_of_getLast? hg));simp;omega
theorem uL {α:Type} {p:α->Bool} {r:α->α->Bool} (ht:∀a b c,r a b=true->r b c=true->r a c=true) {l:List α}:ig p r l=true↔(∀x∈l,p x=true)/\l.Pairwise (λa b=>r a b=true):=by
 induction l with
 |nil=>simp[ig]
 |cons x l ih=>
  rw [oC];simp only[aEX,ih,aFR,aFd,forall_eq_or_imp];constructor
  .rintro⟨⟨h1,h2⟩,h3,h4⟩;refine⟨⟨h1,h3⟩,?_,h4⟩;cases l with
   |nil=>intro a ha;simp at ha
   |cons y l=>
    simp only[List.head?_cons] at h2;intro a ha;rcases aFd.1 ha with rfl|ha
    .exact h2
    .exact ht x y a h2 ((aFR.1 h4).1 a ha)
  .rintro⟨⟨h1,h3⟩,h2,h4⟩;refine⟨⟨h1,?_⟩,h3,h4⟩;cases l with
   |nil=>simp
   |cons y l=>exact h2 y Aac
theorem aeM {α:Type} {p q:α->Bool} {r:α->α->Bool} {l:List α}:ig (λx=>p x&&q x) r l=(ig p r l&&l.all q):=by
 induction l with
 |nil=>simp[ig]
 |cons x l ih=>
  rw [oC,ih,oC,List.all_cons];generalize p x=a;generalize q x=b;generalize ig p r l=d;generalize l.all q=e;cases a<;>cases b<;>cases d<;>cases e<;>simp
theorem akm:∀(B A:List Int),A.Pairwise (· < ·)->B.Pairwise (· < ·)->(∀x∈A,x∈B)->A.length<=B.length:=by
 intro B;induction B with
 |nil=>
  intro A _ _ hs;cases A with
  |nil=>simp
  |cons a A=>exact absurd (hs a Aac) Aac
 |cons b B ih=>
  intro A hA hB hs;cases A with
  |nil=>simp
  |cons a A=>
   exact ahz
theorem akl:∀(B A:List Int),A.Pairwise (· < ·)->B.Pairwise (· < ·)->(∀x∈A,x∈B)->B.length<=A.length->A=B:=by
 intro B;induction B with
 |nil=>
  intro A _ _ hs _;cases A with
  |nil=>rfl
  |cons a A=>exact absurd (hs a Aac) Aac
 |cons b B ih=>
  intro A hA hB hs hl;cases A with
  |nil=>simp at hl
  |cons a A=>
   exact ahz
def rQ (n:Nd):List Int:=n.kids++(if n.par= -1 then[] else[n.par])
def ZI (l:List Int):List Int:=l.mergeSort λx y=>decide (x<=y)
theorem rz (l:List Int):(ZI l).length=l.length:=List.length_mergeSort l
theorem ND (l:List Int) (x:Int):x∈ZI l↔x∈l:=(List.mergeSort_perm l _).mem_iff
theorem afM {l:List Int} (h:l.Nodup):(ZI l).Pairwise (· < ·):=by
 have h1:(ZI l).Pairwise (λx y=>decide (x<=y)=true):=List.pairwise_mergeSort (le:=λx y:Int=>decide (x<=y)) (λa b c h1 h2=>by simp at *;omega) (λa b=>Aah) l;have h2:(ZI l).Nodup:=(List.mergeSort_perm l _).symm.nodup h;exact(h1.and h2).imp (λ{a b} h=>by have:=aFa h.1;have:=h.2;omega)
theorem Au (l:List Int) (x:Int):hasB l x=true↔x∈l:=by
 grind [hasB]
theorem nR (a b c:Int) (h1:iR a b=true) (h2:iR b c=true):iR a c=true:=by
 unfold iR at *;simp at *;omega
theorem qV {n:Nd} (h:eD n=true):(∀x∈n.kids,kU n.id n.par x=true)/\n.kids.Pairwise (· < ·)/\ -1<=n.par:=by
 grind [iR,eD,uL,nR]
theorem Uy {n:Nd} (h:eD n=true):(rQ n).Nodup:=by
 obtain⟨h1,h2,_⟩:=qV h;have h3:n.kids.Nodup:=h2.imp (λ{a b} h=>Aaa);grind [kU,rQ]
theorem Gh {n:Nd} (h:eD n=true) (x:Int):dY n x=true↔x∈rQ n:=by
 grind [rQ,dY,Au,qV]
theorem wT {n:Nd} (h:eD n=true):((rQ n).length:Int)=n.kids.length+(if 0<=n.par then 1 else 0):=by
 grind [rQ,qV]
theorem xX {n:Nd} (hp:eD n=true):oZ n=(decide (n.seen.map (·.f)=ZI (rQ n))&&n.seen.all wD):=by
 have hnd:=Uy hp;have hsr:=afM hnd;unfold oZ;rw [aeM,<-wT hp,<-Bool.and_assoc];congr 1
 rw [aF7,aEX,aFu,aFu,uL (λa b c h1 h2=>nR a.f b.f c.f h1 h2)];constructor
 .rintro⟨h1,h2,h3⟩;refine akl _ _ ?_ hsr ?_ ?_
  .rw [List.pairwise_map];exact h3.imp (λ{a b} h=>aFa h)
  .grind [Gh,ND]
  .rw [rz,aFQ];omega
 .intro h;refine⟨?_,?_,?_⟩
  .grind [rz]
  .intro s hs;rw [Gh hp,<-ND,<-h];exact aGq.2 ⟨s,hs,rfl⟩
  .rw [<-h,List.pairwise_map] at hsr;exact hsr.imp (λ{a b} h=>aET h)
end Mth
set_option maxRecDepth 100000
theorem dx {w:World} {g:Nat} {o:Obj} (h:w.heap[g]?=some o):g < w.heap.size:=by
 exact aa3
theorem aJ {w w':World} {g:Nat} {o:Obj} (h:w.heap[g]?=some o) (hb:aH w w'):w'.heap[g]?=some o:=by
 rw [hb.block g (dx h)];exact h
theorem cells3 {w:World} {g:Nat} {a0 a1 a2:Value} {t:TypeId} (h:w.heap[g]?=some (.cells #[a0,a1,a2] t (0,0))):
 w.cell? ⟨g,0,none⟩=some a0/\w.cell? ⟨g,1,none⟩=some a1/\w.cell? ⟨g,2,none⟩=some a2:=by
 have hc:∀i,w.cell? ⟨g,i,none⟩=#[a0,a1,a2][i]?:=λi=>aE1 w g i _ t (0,0) h
 exact⟨hc 0,hc 1,hc 2⟩
theorem LK {w:World} {g:Nat} {a0 a1 a2 a3:Value} {t:TypeId} (h:w.heap[g]?=some (.cells #[a0,a1,a2,a3] t (0,0))):
 w.cell? ⟨g,0,none⟩=some a0/\w.cell? ⟨g,1,none⟩=some a1/\w.cell? ⟨g,2,none⟩=some a2/\w.cell? ⟨g,3,none⟩=some a3:=by
 have hc:∀i,w.cell? ⟨g,i,none⟩=#[a0,a1,a2,a3][i]?:=λi=>aE1 w g i _ t (0,0) h
 exact⟨hc 0,hc 1,hc 2,hc 3⟩
theorem LQ {w:World} {g:Nat} {a0 a1 a2 a3 a4 a5:Value} {t:TypeId} (h:w.heap[g]?=some (.cells #[a0,a1,a2,a3,a4,a5] t (0,0))):
 w.cell? ⟨g,0,none⟩=some a0/\w.cell? ⟨g,1,none⟩=some a1/\w.cell? ⟨g,2,none⟩=some a2/\w.cell? ⟨g,3,none⟩=some a3/\w.cell? ⟨g,4,none⟩=some a4/\w.cell? ⟨g,5,none⟩=some a5:=by
 have hc:∀i,w.cell? ⟨g,i,none⟩=#[a0,a1,a2,a3,a4,a5][i]?:=λi=>aE1 w g i _ t (0,0) h
 exact⟨hc 0,hc 1,hc 2,hc 3,hc 4,hc 5⟩
theorem uK {w:World} {g:Nat} {a0 a1 a2 a3 a4 a5 a6:Value} {t:TypeId} (h:w.heap[g]?=some (.cells #[a0,a1,a2,a3,a4,a5,a6] t (0,0))):
 w.cell? ⟨g,0,none⟩=some a0/\w.cell? ⟨g,1,none⟩=some a1/\w.cell? ⟨g,2,none⟩=some a2/\w.cell? ⟨g,3,none⟩=some a3/\w.cell? ⟨g,4,none⟩=some a4/\w.cell? ⟨g,5,none⟩=some a5/\w.cell? ⟨g,6,none⟩=some a6:=by
 have hc:∀i,w.cell? ⟨g,i,none⟩=#[a0,a1,a2,a3,a4,a5,a6][i]?:=λi=>aE1 w g i _ t (0,0) h
 exact⟨hc 0,hc 1,hc 2,hc 3,hc 4,hc 5,hc 6⟩
theorem xU (F T:Int) (r:Bool) (w:World) (h:nG F T=r):Calls Tryz.prog 342 #[.agg #[.int .i64 F,.int .i64 T]] w (dU w (.bool r)):=by
 subst h;cases h1:uY F
 case' false=>
  have HP:=Hq (show nG F T=false by simp[nG,h1]);have H1:=Hq (λw1=>isNode F false w1 h1);clear h1;exact ail
 have H1:=Hq (λw1=>isNode F true w1 h1);cases h2:uY T
 case' false=>
  have HP:=Hq (show nG F T=false by simp[nG,h2])
  have H2:=Hq (λw1=>isNode T false w1 h2)
  open avo in exact ahb
 have H2:=Hq (λw1=>isNode T true w1 h2);by_cases hft:F=T
 case' pos=>
  have HP:=Hq (show nG F T=false by simp[nG,hft]);clear h1 h2;subst hft;exact ail
 have HP:=Hq (show nG F T=true by simp[nG,h1,h2,hft]);have he:(F != T)=true:=by simp[hft]
 open avn in exact ahb
theorem NW (F T:Int) (k:ByteArray) (N:Int) (r:Bool) (w:World) (h:(nG F T&&keyOk k.data.toList&&fJ N)=r):Calls Tryz.prog 343 #[.agg #[.int .i64 F,.int .i64 T,.string k,.int .i64 N]] w (dU w (.bool r)):=by
 have HQ:=Hq h;clear h;cases hr:nG F T
 case' false=>
  have HP:=Hq (show(nG F T&&keyOk k.data.toList&&fJ N)=false by simp[hr]);have HR:=Hq (λw1=>xU F T false w1 hr);clear hr;go_in
  go_wp2_with (first|(go_at_call 342;refine(HR _).mono ?_;rintro e w2 ⟨rfl,hb2⟩;have hA:=aJ (aEP w _) hb2;have hB:=(au w _).trans (hb2.mono Aac);obtain⟨c0,c1,c2,c3⟩:=LK hA;have hz:=dx hA;clear hA hb2))
  exact Ac
 have HR:=Hq (λw1=>xU F T true w1 hr);cases hc0:keyOk k.data.toList
 case' false=>
  have HP:=Hq (show(nG F T&&keyOk k.data.toList&&fJ N)=false by simp[hr,hc0]);have N8:=Hq (λw1=>iC k false w1 hc0);clear hr hc0;go_in
  go_wp2_with (first|(go_at_call 342;refine(HR _).mono ?_;rintro e w2 ⟨rfl,hb2⟩;have hA:=aJ (aEP w _) hb2;have hB:=(au w _).trans (hb2.mono Aac);obtain⟨c0,c1,c2,c3⟩:=LK hA;have hz:=dx hA;clear hA hb2)|(go_at_call_of 190 k;refine(N8 _).mono ?_;rintro e w1 ⟨rfl,rfl⟩))
  exact Ac
 have N8:=Hq (λw1=>iC k true w1 hc0);cases hc1:fJ N
 case' false=>
  have HP:=Hq (show(nG F T&&keyOk k.data.toList&&fJ N)=false by simp[hr,hc0,hc1]);have N9:=Hq (λw1=>aO N false w1 hc1);exact axZ
 have N9:=Hq (λw1=>aO N true w1 hc1);have HP:=Hq (show(nG F T&&keyOk k.data.toList&&fJ N)=true by simp[hr,hc0,hc1]);exact axZ
theorem ajc (F T I L:Int) (k:ByteArray) (N:Int) (r:Bool) (w:World) (h:(nG F T&&fJ I&&decide (1<=L)&&decide (L<=I)&&keyOk k.data.toList&&fJ N)=r):Calls Tryz.prog 344 #[.agg #[.int .i64 F,.int .i64 T,.int .i64 I,.int .i64 L,.string k,.int .i64 N]] w (dU w (.bool r)):=by
 have HQ:=Hq h;clear h;cases hr:nG F T
 case' false=>
  have HP:=Hq (show(nG F T&&fJ I&&decide (1<=L)&&decide (L<=I)&&keyOk k.data.toList&&fJ N)=false by simp[hr]);have HR:=Hq (λw1=>xU F T false w1 hr);clear hr;go_in
  go_wp2_with (first|(go_at_call 342;refine(HR _).mono ?_;rintro e w2 ⟨rfl,hb2⟩;have hA:=aJ (aEP w _) hb2;have hB:=(au w _).trans (hb2.mono Aac);obtain⟨c0,c1,c2,c3,c4,c5⟩:=LQ hA;have hz:=dx hA;clear hA hb2))
  exact Ac
 have HR:=Hq (λw1=>xU F T true w1 hr);cases hc0:fJ I
 case' false=>
  have HP:=Hq (show(nG F T&&fJ I&&decide (1<=L)&&decide (L<=I)&&keyOk k.data.toList&&fJ N)=false by simp[hr,hc0]);have N8:=Hq (λw1=>aO I false w1 hc0);exact aj8
 have N8:=Hq (λw1=>aO I true w1 hc0);by_cases hd1:1<=L
 case' neg=>
  have HP:=Hq (show(nG F T&&fJ I&&decide (1<=L)&&decide (L<=I)&&keyOk k.data.toList&&fJ N)=false by simp[hr,hc0,hd1]);exact aj8
 by_cases hd2:L<=I
 case' neg=>
  have HP:=Hq (show(nG F T&&fJ I&&decide (1<=L)&&decide (L<=I)&&keyOk k.data.toList&&fJ N)=false by simp[hr,hc0,hd1,hd2]);exact aj8
 cases hc1:keyOk k.data.toList
 case' false=>
  have HP:=Hq (show(nG F T&&fJ I&&decide (1<=L)&&decide (L<=I)&&keyOk k.data.toList&&fJ N)=false by simp[hr,hc0,hd1,hd2,hc1]);have N9:=Hq (λw1=>iC k false w1 hc1);clear hr hc0 hc1;go_in
  go_wp2_with (first|(go_at_call 342;refine(HR _).mono ?_;rintro e w2 ⟨rfl,hb2⟩;have hA:=aJ (aEP w _) hb2;have hB:=(au w _).trans (hb2.mono Aac);obtain⟨c0,c1,c2,c3,c4,c5⟩:=LQ hA;have hz:=dx hA;clear hA hb2)|(go_at_call_of 170 I;refine(N8 _).mono ?_;rintro e w1 ⟨rfl,rfl⟩)|(go_at_call_of 190 k;refine(N9 _).mono ?_;rintro e w1 ⟨rfl,rfl⟩))
  exact Ac
 have N9:=Hq (λw1=>iC k true w1 hc1);cases hc2:fJ N
 case' false=>
  have HP:=Hq (show(nG F T&&fJ I&&decide (1<=L)&&decide (L<=I)&&keyOk k.data.toList&&fJ N)=false by simp[hr,hc0,hd1,hd2,hc1,hc2]);have Df:=Hq (λw1=>aO N false w1 hc2);exact axU
 have Df:=Hq (λw1=>aO N true w1 hc2);have HP:=Hq (show(nG F T&&fJ I&&decide (1<=L)&&decide (L<=I)&&keyOk k.data.toList&&fJ N)=true by simp[hr,hc0,hd1,hd2,hc1,hc2]);exact axU
theorem O7 (F T I:Int) (r:Bool) (w:World) (h:(nG F T&&fJ I)=r):Calls Tryz.prog 345 #[.agg #[.int .i64 F,.int .i64 T,.int .i64 I]] w (dU w (.bool r)):=by
 have HQ:=Hq h;clear h;cases hr:nG F T
 case' false=>
  have HP:=Hq (show(nG F T&&fJ I)=false by simp[hr]);have HR:=Hq (λw1=>xU F T false w1 hr);clear hr;go_in
  go_wp2_with (first|(go_at_call 342;refine(HR _).mono ?_;rintro e w2 ⟨rfl,hb2⟩;have hA:=aJ (aEP w _) hb2;have hB:=(au w _).trans (hb2.mono Aac);obtain⟨c0,c1,c2⟩:=cells3 hA;have hz:=dx hA;clear hA hb2))
  exact Ac
 have HR:=Hq (λw1=>xU F T true w1 hr);cases hc0:fJ I
 case' false=>
  have HP:=Hq (show(nG F T&&fJ I)=false by simp[hr,hc0]);have N8:=Hq (λw1=>aO I false w1 hc0);exact ax1
 have N8:=Hq (λw1=>aO I true w1 hc0);have HP:=Hq (show(nG F T&&fJ I)=true by simp[hr,hc0]);exact ax1
theorem aK {w:World} {g:Nat} {a0 a1 a2 a3 a4 a5 a6 a7 a8 a9 Oh:Value} {t:TypeId} (h:w.heap[g]?=some (.cells #[a0,a1,a2,a3,a4,a5,a6,a7,a8,a9,Oh] t (0,0))):
 (w.cell? ⟨g,0,none⟩=some a0/\w.cell? ⟨g,1,none⟩=some a1/\w.cell? ⟨g,2,none⟩=some a2/\w.cell? ⟨g,3,none⟩=some a3/\w.cell? ⟨g,4,none⟩=some a4/\w.cell? ⟨g,5,none⟩=some a5/\w.cell? ⟨g,6,none⟩=some a6/\w.cell? ⟨g,7,none⟩=some a7/\w.cell? ⟨g,8,none⟩=some a8/\w.cell? ⟨g,9,none⟩=some a9/\w.cell? ⟨g,10,none⟩=some Oh)/\(w.frozen? ⟨g,0,none⟩=false/\w.frozen? ⟨g,1,none⟩=false/\w.frozen? ⟨g,2,none⟩=false/\w.frozen? ⟨g,3,none⟩=false/\w.frozen? ⟨g,4,none⟩=false/\w.frozen? ⟨g,5,none⟩=false/\w.frozen? ⟨g,6,none⟩=false/\w.frozen? ⟨g,7,none⟩=false/\w.frozen? ⟨g,8,none⟩=false/\w.frozen? ⟨g,9,none⟩=false/\w.frozen? ⟨g,10,none⟩=false):=by
 have hf:∀i,w.frozen? ⟨g,i,none⟩=false:=λi=>by unfold World.frozen?;rw [h];simp
 have hc:∀i,w.cell? ⟨g,i,none⟩=#[a0,a1,a2,a3,a4,a5,a6,a7,a8,a9,Oh][i]?:=λi=>aE1 w g i _ t (0,0) h
 exact⟨⟨hc 0,hc 1,hc 2,hc 3,hc 4,hc 5,hc 6,hc 7,hc 8,hc 9,hc 10⟩,hf 0,hf 1,hf 2,hf 3,hf 4,hf 5,hf 6,hf 7,hf 8,hf 9,hf 10⟩
theorem lS {w:World} {g:Nat} {a0 a1 a2 a3 a4 a5 a6 a7 a8 a9 Oh b0 b1 b2 b3 b4 b5 b6 b7 b8 b9 b10:Value} {t:TypeId} (h:w.heap[g]?=some (.cells #[a0,a1,a2,a3,a4,a5,a6,a7,a8,a9,Oh] t (0,0))):(((((((((((w.setCell ⟨g,0,none⟩ b0).setCell ⟨g,1,none⟩ b1).setCell ⟨g,2,none⟩ b2).setCell ⟨g,3,none⟩ b3).setCell ⟨g,4,none⟩ b4).setCell ⟨g,5,none⟩ b5).setCell ⟨g,6,none⟩ b6).setCell ⟨g,7,none⟩ b7).setCell ⟨g,8,none⟩ b8).setCell ⟨g,9,none⟩ b9).setCell ⟨g,10,none⟩ b10).heap[g]?=some (.cells #[b0,b1,b2,b3,b4,b5,b6,b7,b8,b9,b10] t (0,0)):=
 GR.setW_blk [b0,b1,b2,b3,b4,b5,b6,b7,b8,b9,b10] (o:=0) (xs:=[a0,a1,a2,a3,a4,a5,a6,a7,a8,a9,Oh]) h
theorem iK {a w:World} {B g:Nat} {b0 b1 b2 b3 b4 b5 b6 b7 b8 b9 b10:Value} (h:Below B a w) (hg:B<=g):Below B a (((((((((((w.setCell ⟨g,0,none⟩ b0).setCell ⟨g,1,none⟩ b1).setCell ⟨g,2,none⟩ b2).setCell ⟨g,3,none⟩ b3).setCell ⟨g,4,none⟩ b4).setCell ⟨g,5,none⟩ b5).setCell ⟨g,6,none⟩ b6).setCell ⟨g,7,none⟩ b7).setCell ⟨g,8,none⟩ b8).setCell ⟨g,9,none⟩ b9).setCell ⟨g,10,none⟩ b10):=
 GR.setW_below hg [b0,b1,b2,b3,b4,b5,b6,b7,b8,b9,b10] (o:=0) h
theorem Po {w:World} {g:Nat} {a0 a1 a2 a3 a4 a5 a6 a7 a8 a9 Oh b4 b5 b6 b7 b8 b9 b10:Value} {t:TypeId} (h:w.heap[g]?=some (.cells #[a0,a1,a2,a3,a4,a5,a6,a7,a8,a9,Oh] t (0,0))):(((((((w.setCell ⟨g,4,none⟩ b4).setCell ⟨g,5,none⟩ b5).setCell ⟨g,6,none⟩ b6).setCell ⟨g,7,none⟩ b7).setCell ⟨g,8,none⟩ b8).setCell ⟨g,9,none⟩ b9).setCell ⟨g,10,none⟩ b10).heap[g]?=some (.cells #[a0,a1,a2,a3,b4,b5,b6,b7,b8,b9,b10] t (0,0)):=
 GR.setW_blk [b4,b5,b6,b7,b8,b9,b10] (o:=4) (xs:=[a0,a1,a2,a3,a4,a5,a6,a7,a8,a9,Oh]) h
theorem Ao {a w:World} {B g:Nat} {b4 b5 b6 b7 b8 b9 b10:Value} (h:Below B a w) (hg:B<=g):Below B a (((((((w.setCell ⟨g,4,none⟩ b4).setCell ⟨g,5,none⟩ b5).setCell ⟨g,6,none⟩ b6).setCell ⟨g,7,none⟩ b7).setCell ⟨g,8,none⟩ b8).setCell ⟨g,9,none⟩ b9).setCell ⟨g,10,none⟩ b10):=
 GR.setW_below hg [b4,b5,b6,b7,b8,b9,b10] (o:=4) h
theorem Ap {w:World} {g g':Nat} {b4 b5 b6 b7 b8 b9 b10:Value} (hne:g'≠g):(((((((w.setCell ⟨g,4,none⟩ b4).setCell ⟨g,5,none⟩ b5).setCell ⟨g,6,none⟩ b6).setCell ⟨g,7,none⟩ b7).setCell ⟨g,8,none⟩ b8).setCell ⟨g,9,none⟩ b9).setCell ⟨g,10,none⟩ b10).heap[g']?=w.heap[g']?:=
 GR.setW_other hne [b4,b5,b6,b7,b8,b9,b10] (o:=4)
theorem iD {P:Program} {fn:Func} {Q:Ending->World->Prop} {x:Exit} {act:Act} {W:World} (h:∀W',W'=W->bodyPost P fn Q x act W'):bodyPost P fn Q x act W:=h W rfl
theorem gH (w:World) (a b:Obj):((w.alloc a).alloc b).heap[w.heap.size]?=some a/\((w.alloc a).alloc b).heap[w.heap.size+1]?=some b/\Below w.heap.size w ((w.alloc a).alloc b):=by
 have e1:(w.alloc a).heap.size=w.heap.size+1:=Aac
 have h4:=aEP (w.alloc a) b;have h6:=aE4 (w.alloc a) b w.heap.size Aaa;rw [e1] at h4;exact⟨h6.trans (aEP w a),h4,(au w a).alloc Aaa b⟩
theorem abo (w:World) (a b c:Obj):(((w.alloc a).alloc b).alloc c).heap[w.heap.size]?=some a/\(((w.alloc a).alloc b).alloc c).heap[w.heap.size+1]?=some b/\(((w.alloc a).alloc b).alloc c).heap[w.heap.size+1+1]?=some c/\Below w.heap.size w (((w.alloc a).alloc b).alloc c):=by
 exact axS
namespace Mth
structure gP where
 K:Int
 no:Int
 k:ByteArray
 n:Int
 m:Mg
def mq (m:Mg):Bool:=decide (m.K=0/\m.F=0/\m.T=0/\m.I=0/\m.L=0/\m.k.toList=[]/\m.N=0)
def bQ (o:gP):Bool:=
 if o.K=0\/o.K=3\/o.K=4 then keyOk o.k.data.toList&&fJ o.n&&decide (o.no=0)&&mq o.m
 else if o.K=1 then keyOk o.k.data.toList&&fJ o.n&&fJ o.no&&mq o.m
 else if o.K=2 then decide (o.k.toList=[])&&decide (o.n=0)&&fJ o.no&&mq o.m
 else if o.K=5 then decide (o.k.toList=[])&&decide (o.n=0)&&decide (o.no=0)&&mq o.m
 else if o.K=6 then decide (o.k.toList=[])&&decide (o.n=0)&&decide (o.no=0)&&bY o.m
 else false
end Mth
abbrev bV (K no:Int) (k:ByteArray) (nn mK mF mT mI mL:Int) (mk:ByteArray) (mN:Int):Array Value:=#[.int .i64 K,.int .i64 no,.string k,.int .i64 nn,.int .i64 mK,.int .i64 mF,.int .i64 mT,.int .i64 mI,.int .i64 mL,.string mk,.int .i64 mN]
abbrev jX (o:gP):Value:= .agg #[.int .i64 o.K,.int .i64 o.no,.string o.k,.int .i64 o.n,.int .i64 o.m.K,.int .i64 o.m.F,.int .i64 o.m.T,.int .i64 o.m.I,.int .i64 o.m.L,.string o.m.k,.int .i64 o.m.N]
open Go.WideShapes
theorem aji (m:Mg) (w:World):Calls Tryz.prog 56 #[oJ m] w (dU w (oJ m)):=by
 obtain⟨K,F,T,I,L,k,N⟩:=m;go_in
 go_wp2_with fail;refine aEY (v:= .agg (bX K F T I L k N)) (by simp[results,Tryz.results56,go_sem]) rfl ⟨rfl,?_⟩;exact Wi
theorem adE (m:Mg) (z:Int) (w:World) (h0:0<=z) (h1:z<=1048576) (h2:m.k.size<=maxLen):Calls Tryz.prog 44 #[oJ m,.int .i64 z] w λe w'=>e= .returned (.int .i64 (if z - m.k.size < 0 then -1 else z - m.k.size))/\aH w w':=by
 obtain⟨K,F,T,I,L,k,N⟩:=m;dsimp only at h2;unfold maxLen at h2;by_cases hn:(z - k.size:Int) < 0
 all_goals
  go_in
  go_wp2_with fail
  go_ret
  exact⟨rfl,au w _⟩
theorem aDq (o:gP) (z:Int) (w:World) (h0:0<=z) (h1:z<=1048576) (h2:o.k.size<=maxLen) (h3:o.m.k.size<=maxLen):Calls Tryz.prog 86 #[jX o,.int .i64 z] w λe w'=>∃r:Int,e= .returned (.int .i64 r)/\(r= -1\/0<=r/\r<=z/\o.k.size<=1048576/\o.m.k.size<=1048576)/\aH w w':=by
 obtain⟨K,no,k,n,m⟩:=o;dsimp only at h2 h3;by_cases hn:(z - k.size:Int) < 0
 .obtain⟨mK,mF,mT,mI,mL,mk,mN⟩:=m;unfold maxLen at h2 h3;go_in
  go_wp2_with fail;go_ret;exact⟨_,rfl,.inl rfl,au w _⟩
 .have HM:=Hq (λw1=>adE m (z - k.size) w1 Aaa Aaa h3);have hks:k.size<=1048576:=Aaa
  have hmz:m.k.size<=9223372036854775807:=by unfold maxLen at h3;omega
  obtain⟨mK,mF,mT,mI,mL,mk,mN⟩:=m;dsimp only at hmz HM;clear h2 h3;go_in
  go_wp2_with fail;refine(HM _).mono ?_;by_cases hn2:(z - k.size - mk.size:Int) < 0
  .rw [aFc hn2];rintro e w1 ⟨rfl,hb1⟩;have HB:=Hq ((au w _).trans (hb1.mono Aac));clear hb1 HM;go_wp2_with fail;go_ret;exact⟨_,rfl,.inl rfl,HB⟩
  .rw [aE2 hn2];rintro e w1 ⟨rfl,hb1⟩;have HB:=Hq ((au w _).trans (hb1.mono Aac));clear hb1 HM;go_wp2_with fail;go_ret;exact⟨_,rfl,.inr ⟨Aaa,Aaa,hks,Aaa⟩,HB⟩
theorem O9 (w:World) (a b c:Obj):(((w.alloc a).alloc b).alloc c).heap[w.heap.size]?=some a/\(((w.alloc a).alloc b).alloc c).heap[w.heap.size+1]?=some b/\(((w.alloc a).alloc b).alloc c).heap[w.heap.size+1+1]?=some c/\Below w.heap.size w (((w.alloc a).alloc b).alloc c):=by
 exact axS
theorem aDr (o:gP) (w:World):Calls Tryz.prog 104 #[jX o] w (dU w (jX o)):=by
 obtain⟨K,no,k,n,m⟩:=o;have HT:=Hq (λw1=>aji m w1);obtain⟨mK,mF,mT,mI,mL,mk,mN⟩:=m;go_in
 go_wp2_with fail;refine(HT _).mono ?_;rintro e w1 ⟨rfl,hb1⟩;obtain⟨hP,hR,hO,hB⟩:=O9 w (.cells (bV K no k n mK mF mT mI mL mk mN) 88) (.cells (bV 0 0 ⟨#[]⟩ 0 0 0 0 0 0 ⟨#[]⟩ 0) 73) (.cells (bV K no k n 0 0 0 0 0 ⟨#[]⟩ 0) 73);have HR:=Hq (aJ hR hb1);have HO:=Hq (aJ hO hb1);have HB:=Hq (hB.trans (hb1.mono hB.size));clear hP hR hO hB hb1 HT;have hz1:=dx HR;have hz2:=dx HO;obtain⟨⟨o0,o1,o2,o3,o4,o5,o6,o7,o8,o9,o10⟩,f0,f1,f2,f3,f4,f5,f6,f7,f8,f9,f10⟩:=aK HO;go_upto_region 7 with fail;refine wp_at (λW hW=>?_);have HOW:Hid (W.heap[w.heap.size+1+1]?=some (.cells (bV K no k n mK mF mT mI mL mk mN) 73 (0,0))):=by rw [hW];exact Po HO
 have HRW:Hid (W.heap[w.heap.size+1]?=some (.cells (bV 0 0 ⟨#[]⟩ 0 0 0 0 0 0 ⟨#[]⟩ 0) 73 (0,0))):=by rw [hW];exact(Ap Aaa).trans HR
 have iQ:Hid (aH w W):=by rw [hW];exact Ao HB Aaa
 clear hW HO HR HB hz1 hz2 o0 o1 o2 o3 o4 o5 o6 o7 o8 o9 o10 f0 f1 f2 f3 f4 f5 f6 f7 f8 f9 f10;have hz1:=dx HRW;have hz2:=dx HOW;obtain⟨⟨o0,o1,o2,o3,o4,o5,o6,o7,o8,o9,o10⟩,_⟩:=aK HOW;obtain⟨⟨r0,r1,r2,r3,r4,r5,r6,r7,r8,r9,r10⟩,f0,f1,f2,f3,f4,f5,f6,f7,f8,f9,f10⟩:=aK HRW;go_wp2_with fail;refine iD (λW' hW'=>?_);have hRR:W'.heap[w.heap.size+1]?=some (.cells (bV K no k n mK mF mT mI mL mk mN) 73 (0,0)):=by rw [hW'];exact lS HRW
 have hBB:aH w W':=by rw [hW'];exact iK iQ Aaa
 obtain⟨⟨x0,x1,x2,x3,x4,x5,x6,x7,x8,x9,x10⟩,_⟩:=aK hRR;exact aEY (v:= .agg (bV K no k n mK mF mT mI mL mk mN)) (by simp[results,Tryz.results104,go_sem,x0,x1,x2,x3,x4,x5,x6,x7,x8,x9,x10]) rfl ⟨rfl,hBB⟩
theorem eF {w:World} {g:Nat} {a0 a1 a2 a3 a4 a5 a6:Value} {t:TypeId} (h:w.heap[g]?=some (.cells #[a0,a1,a2,a3,a4,a5,a6] t (0,0))):
 (w.cell? ⟨g,0,none⟩=some a0/\w.cell? ⟨g,1,none⟩=some a1/\w.cell? ⟨g,2,none⟩=some a2/\w.cell? ⟨g,3,none⟩=some a3/\w.cell? ⟨g,4,none⟩=some a4/\w.cell? ⟨g,5,none⟩=some a5/\w.cell? ⟨g,6,none⟩=some a6)/\
  (w.frozen? ⟨g,0,none⟩=false/\w.frozen? ⟨g,1,none⟩=false/\w.frozen? ⟨g,2,none⟩=false/\w.frozen? ⟨g,3,none⟩=false/\w.frozen? ⟨g,4,none⟩=false/\w.frozen? ⟨g,5,none⟩=false/\w.frozen? ⟨g,6,none⟩=false):=by
 have hf:∀i,w.frozen? ⟨g,i,none⟩=false:=λi=>by unfold World.frozen?;rw [h];simp
 exact⟨uK h,hf 0,hf 1,hf 2,hf 3,hf 4,hf 5,hf 6⟩
theorem blk_set {w:World} {c:Nat} {cs:Array Value} {t:TypeId} (h:w.heap[c]?=some (.cells cs t (0,0))) (i:Nat) (v:Value):(w.setCell ⟨c,i,none⟩ v).heap[c]?=some (.cells (cs.setIfInBounds i v) t (0,0)):=by
 exact Wj
theorem one_other {w:World} {g g' i:Nat} {v:Value} {o:Option Obj} (h:w.heap[g']?=o) (hne:g'≠g):(w.setCell ⟨g,i,none⟩ v).heap[g']?=o:=by rw [aFe _ _ _ _ hne,h]
theorem uq {w:World} {g:Nat} {a0 a1 a2 a3 a4 a5 a6 b0 b1 b2 b3 b4 b5 b6:Value} {t:TypeId} (h:w.heap[g]?=some (.cells #[a0,a1,a2,a3,a4,a5,a6] t (0,0))):
 (((((((w.setCell ⟨g,0,none⟩ b0).setCell ⟨g,1,none⟩ b1).setCell ⟨g,2,none⟩ b2).setCell ⟨g,3,none⟩ b3).setCell ⟨g,4,none⟩ b4).setCell ⟨g,5,none⟩ b5).setCell ⟨g,6,none⟩ b6).heap[g]?=some (.cells #[b0,b1,b2,b3,b4,b5,b6] t (0,0)):=by
 exact(blk_set (blk_set (blk_set (blk_set (blk_set (blk_set (blk_set h 0 b0) 1 b1) 2 b2) 3 b3) 4 b4) 5 b5) 6 b6).trans Aab
theorem su {a w:World} {B g:Nat} {b0 b1 b2 b3 b4 b5 b6:Value} (h:Below B a w) (hg:B<=g):
 Below B a (((((((w.setCell ⟨g,0,none⟩ b0).setCell ⟨g,1,none⟩ b1).setCell ⟨g,2,none⟩ b2).setCell ⟨g,3,none⟩ b3).setCell ⟨g,4,none⟩ b4).setCell ⟨g,5,none⟩ b5).setCell ⟨g,6,none⟩ b6):=
 ((((((h.setCell (p:=⟨g,0,none⟩) hg b0).setCell (p:=⟨g,1,none⟩) hg b1).setCell (p:=⟨g,2,none⟩) hg b2).setCell (p:=⟨g,3,none⟩) hg b3).setCell (p:=⟨g,4,none⟩) hg b4).setCell (p:=⟨g,5,none⟩) hg b5).setCell (p:=⟨g,6,none⟩) hg b6
theorem bodyPost_at {P:Program} {fn:Func} {Q:Ending->World->Prop} {x:Exit} {act:Act} {W:World} (h:∀W',W'=W->bodyPost P fn Q x act W'):bodyPost P fn Q x act W:=h W rfl
theorem LH (v:Value) (w:World):(Instr.typeAssert (.iface 295 v) 256 295 true).run Tryz.prog w= .ok (.tuple #[v,.bool true]) w:=Aab
theorem Pd (v:Value) (w:World):(Instr.typeAssert (.iface 297 v) 256 295 true).run Tryz.prog w= .ok (.tuple #[.agg #[.int .i64 0,.int .i64 0,.string ⟨#[]⟩,.int .i64 0],.bool false]) w:=Aab
theorem Tz (v:Value) (w:World):(Instr.typeAssert (.iface 297 v) 256 297 true).run Tryz.prog w= .ok (.tuple #[v,.bool true]) w:=Aab
theorem Pb (v:Value) (w:World):(Instr.typeAssert (.iface 299 v) 256 295 true).run Tryz.prog w= .ok (.tuple #[.agg #[.int .i64 0,.int .i64 0,.string ⟨#[]⟩,.int .i64 0],.bool false]) w:=Aab
theorem Tw (v:Value) (w:World):(Instr.typeAssert (.iface 299 v) 256 297 true).run Tryz.prog w= .ok (.tuple #[.agg #[.int .i64 0,.int .i64 0,.int .i64 0,.int .i64 0,.string ⟨#[]⟩,.int .i64 0],.bool false]) w:=Aab
theorem Tv (v:Value) (w:World):(Instr.typeAssert (.iface 299 v) 256 299 true).run Tryz.prog w= .ok (.tuple #[v,.bool true]) w:=Aab
theorem zl (F T:Int) (k:ByteArray) (N:Int) (w:World):Calls Tryz.prog 272 #[.iface 295 (.agg #[.int .i64 F,.int .i64 T,.string k,.int .i64 N])] w (dU w (oJ ⟨0,F,T,0,0,k,N⟩)):=by
 have f0:=LH (.agg #[.int .i64 F,.int .i64 T,.string k,.int .i64 N]);go_in
 go_wp2_with fail;refine aEY (v:= .agg (bX 0 F T 0 0 k N)) Acu rfl ⟨rfl,?_⟩;exact abb
theorem YT (F T I L:Int) (k:ByteArray) (N:Int) (w:World):Calls Tryz.prog 272 #[.iface 297 (.agg #[.int .i64 F,.int .i64 T,.int .i64 I,.int .i64 L,.string k,.int .i64 N])] w (dU w (oJ ⟨1,F,T,I,L,k,N⟩)):=by
 have f0:=Pd (.agg #[.int .i64 F,.int .i64 T,.int .i64 I,.int .i64 L,.string k,.int .i64 N]);have f1:=Tz (.agg #[.int .i64 F,.int .i64 T,.int .i64 I,.int .i64 L,.string k,.int .i64 N]);go_in
 go_wp2_with fail;refine aEY (v:= .agg (bX 1 F T I L k N)) Acu rfl ⟨rfl,?_⟩;exact abb
theorem xP (F T I:Int) (w:World):Calls Tryz.prog 272 #[.iface 299 (.agg #[.int .i64 F,.int .i64 T,.int .i64 I])] w (dU w (oJ ⟨2,F,T,I,0,ByteArray.empty,0⟩)):=by
 have f0:=Pb (.agg #[.int .i64 F,.int .i64 T,.int .i64 I]);have f1:=Tw (.agg #[.int .i64 F,.int .i64 T,.int .i64 I]);have f2:=Tv (.agg #[.int .i64 F,.int .i64 T,.int .i64 I]);go_in
 go_wp2_with fail;refine aEY (v:= .agg (bX 2 F T I 0 ByteArray.empty 0)) Acu rfl ⟨rfl,?_⟩;exact abb
theorem En (K F T I L:Int) (k:ByteArray) (N:Int) (w:World) (_hs:k.size<=maxLen) (hr:nG F T=false):Calls Tryz.prog 152 #[oJ ⟨K,F,T,I,L,k,N⟩] w (dU w (.bool (bY ⟨K,F,T,I,L,k,N⟩))):=by
 cases h1:uY F
 case' false=>
  have HP:=Hq (show bY ⟨K,F,T,I,L,k,N⟩=false by simp[bY,nG,h1]);have H1:=Hq (λw1=>nZ F false w1 h1);clear h1 hr;exact aio
 have H1:=Hq (λw1=>nZ F true w1 h1);cases h2:uY T
 case' false=>
  have HP:=Hq (show bY ⟨K,F,T,I,L,k,N⟩=false by simp[bY,nG,h2]);have H2:=Hq (λw1=>nZ T false w1 h2);clear h1 h2 hr;exact ahM
 have H2:=Hq (λw1=>nZ T true w1 h2)
 have hft:F=T:=by
  rcases Decidable.em (F=T) with h|h
  .exact h
  .simp[nG,h1,h2,h] at hr
 have HP:=Hq (show bY ⟨K,F,T,I,L,k,N⟩=false by simp[bY,nG,hft]);clear h1 h2 hr;subst hft;exact aio
theorem Hf (_K F T I L:Int) (k:ByteArray) (N:Int) (w:World) (hs:k.size<=maxLen) (hr:nG F T=true):Calls Tryz.prog 152 #[oJ ⟨0,F,T,I,L,k,N⟩] w (dU w (.bool (bY ⟨0,F,T,I,L,k,N⟩))):=by
 open ane in exact aes
theorem Jv (_K F T I L:Int) (k:ByteArray) (N:Int) (w:World) (hs:k.size<=maxLen) (hr:nG F T=true):Calls Tryz.prog 152 #[oJ ⟨1,F,T,I,L,k,N⟩] w (dU w (.bool (bY ⟨1,F,T,I,L,k,N⟩))):=by
 open anb in exact aes
theorem Ju (_K F T I L:Int) (k:ByteArray) (N:Int) (w:World) (hs:k.size<=maxLen) (hr:nG F T=true):Calls Tryz.prog 152 #[oJ ⟨2,F,T,I,L,k,N⟩] w (dU w (.bool (bY ⟨2,F,T,I,L,k,N⟩))):=by
 open ana in exact aes
theorem He (K F T I L:Int) (k:ByteArray) (N:Int) (w:World) (_hs:k.size<=maxLen) (hr:nG F T=true) (k0:¬K=0) (k1:¬K=1) (k2:¬K=2):Calls Tryz.prog 152 #[oJ ⟨K,F,T,I,L,k,N⟩] w (dU w (.bool (bY ⟨K,F,T,I,L,k,N⟩))):=by
 open am9 in exact aes
theorem lq (m:Mg) (w:World) (hs:m.k.size<=maxLen):Calls Tryz.prog 152 #[oJ m] w (dU w (.bool (bY m))):=by
 obtain⟨K,F,T,I,L,k,N⟩:=m;cases hr:nG F T
 .exact En K F T I L k N w hs hr
 by_cases k0:K=0
 .subst k0;exact Hf 0 F T I L k N w hs hr
 by_cases k1:K=1
 .subst k1;exact Jv 0 F T I L k N w hs hr
 by_cases k2:K=2
 .subst k2;exact Ju 0 F T I L k N w hs hr
 exact He K F T I L k N w hs hr k0 k1 k2
end Go.Proofs.YtbolgdleijjgfaaGreatDoor
