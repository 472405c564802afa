/- Parts. -/
import Derived.Test.YtbolgdleijjgfaaGreatDoorRs7
namespace Go.Proofs.YtbolgdleijjgfaaGreatDoor
open Go.Proofs.Tryz
set_option maxHeartbeats 2000000
namespace Mth
structure Mg where
 K:Int
 F:Int
 T:Int
 I:Int
 L:Int
 k:ByteArray
 N:Int
abbrev bQ (K F T I L:Int) (k:ByteArray) (N:Int):Array Value:=#[.int .i64 K,.int .i64 F,.int .i64 T,.int .i64 I,.int .i64 L,.string k,.int .i64 N]
abbrev nZ (m:Mg):Value:= .agg #[.int .i64 m.K,.int .i64 m.F,.int .i64 m.T,.int .i64 m.I,.int .i64 m.L,.string m.k,.int .i64 m.N]
def uV (n:Int):Bool:=decide (0<=n/\n<=29)
def fH (n:Int):Bool:=decide (1<=n/\n<=1000000000)
def mV (f t:Int):Bool:=uV f&&uV t&&decide (f≠t)
def bV (m:Mg):Bool:=
 mV m.F m.T&&
  (if m.K=0 then keyOk m.k.data.toList&&fH m.N&&decide (m.I=0)&&decide (m.L=0)
   else if m.K=1 then keyOk m.k.data.toList&&fH m.N&&fH m.I&&decide (1<=m.L/\m.L<=m.I)
   else if m.K=2 then fH m.I&&decide (m.k.size=0)&&decide (m.N=0)&&decide (m.L=0)
   else false)
end Mth
open Go.RowKit
open Mth
theorem wp_at {P:Program} {Q:Exit->Act->World->Prop} {c:Code} {a:Act} {W:World} (h:∀W',W'=W->Code.wp P c Q a W'):Code.wp P c Q a W:=h W rfl
theorem au (w:World) (o:Obj):Below w.heap.size w (w.alloc o):=(aEY _ _).alloc (aEM _) _
theorem KG {p:Prop} [Decidable p] (h:¬p):Ending.returned (.bool false)= .returned (.bool (decide p)):=by rw [aEN h]
theorem Xg {p q:Prop} [Decidable p] [Decidable q] (h:p↔q):Ending.returned (.bool (decide p))= .returned (.bool (decide q)):=by rw [decide_eq_decide.2 h]
theorem yT (x a b:Int) (r:Bool) (w:World) (h:decide (a<=x/\x<=b)=r):Calls Tryz.prog 47 #[.int .i64 x,.int .i64 a,.int .i64 b] w λe w'=>e= .returned (.bool r)/\w=w':=by
 subst h;by_cases h:a<=x/\x<=b
 .rw [aEO h];exact nG x a b w h.1 h.2
 .rw [aEN h];exact qC x a b w Aaa
theorem nQ (n:Int) (r:Bool) (w:World) (h:uV n=r):Calls Tryz.prog 121 #[.int .i64 n] w λe w'=>e= .returned (.bool r)/\w=w':=by
 go_in
 exact aiF
theorem eG (n:Int) (r:Bool) (w:World) (h:fH n=r):Calls Tryz.prog 90 #[.int .i64 n] w λe w'=>e= .returned (.bool r)/\w=w':=by
 go_in
 exact aiF
theorem isNode (n:Int) (r:Bool) (w:World) (h:uV n=r):Calls Tryz.prog 187 #[.int .i64 n] w λe w'=>e= .returned (.bool r)/\w=w':=by
 subst h;by_cases h0:0<=n
 .go_in
  go_wp2
  go_ret;exact⟨Xg Aaa,rfl⟩
 .go_in
  go_wp2
  go_ret;exact⟨KG Aaa,rfl⟩
theorem aO (n:Int) (r:Bool) (w:World) (h:fH n=r):Calls Tryz.prog 170 #[.int .i64 n] w λe w'=>e= .returned (.bool r)/\w=w':=by
 subst h;by_cases h0:1<=n
 .go_in
  go_wp2
  go_ret;exact⟨Xg Aaa,rfl⟩
 .go_in
  go_wp2
  go_ret;exact⟨KG Aaa,rfl⟩
theorem iq (s:ByteArray) (b:Bool) (w:World) (h:keyOk s.data.toList=b):Calls Tryz.prog 190 #[.string s] w λe w'=>e= .returned (.bool b)/\w=w':=by
 rw [<-h];exact J6 s w
theorem oz (s:ByteArray) (b:Bool) (w:World) (hs:s.size<=maxLen) (h:keyOk s.data.toList=b):Calls Tryz.prog 93 #[.string s] w λe w'=>e= .returned (.bool b)/\w=w':=by
 rw [<-h];exact KP s w hs
namespace Mth
structure jC where
 i:Int
 t:Int
 k:ByteArray
 n:Int
structure Sn where
 f:Int
 l:Int
 ids:List Int
structure Rq where
 no:Int
 k:ByteArray
 n:Int
 s:Int
structure Nd where
 id:Int
 par:Int
 kids:List Int
 next:Int
 pu:List Pu
 out:List jC
 seen:List Sn
 old:Int
 reqs:List Rq
instance:Inhabited jC:=⟨⟨0,0,ByteArray.empty,0⟩⟩
instance:Inhabited Sn:=⟨⟨0,0,[]⟩⟩
instance:Inhabited Rq:=⟨⟨0,ByteArray.empty,0,0⟩⟩
abbrev bf (x:Int):List Value:=[.int .i64 x]
abbrev aM (s:jC):List Value:=[.int .i64 s.i,.int .i64 s.t,.string s.k,.int .i64 s.n]
abbrev aL (r:Rq):List Value:=[.int .i64 r.no,.string r.k,.int .i64 r.n,.int .i64 r.s]
theorem aW (x:Int):(bf x).length=1:=rfl
theorem aR (x:jC):(aM x).length=4:=rfl
theorem aV (x:Rq):(aL x).length=4:=rfl
def gV {α:Type} (p:α->Bool) (r:α->α->Bool):List α->Bool
 |[]=>true
 |[x]=>p x
 |x::y::l=>p x&&r x y&&gV p r (y::l)
section
variable {α:Type} (p:α->Bool) (r:α->α->Bool)
theorem nV (x:α) (l:List α):gV p r (x::l)=(p x&&(match l.head? with|none=>true|some y=>r x y)&&gV p r l):=by
 cases l with
 |nil=>simp[gV]
 |cons y l=>simp[gV]
theorem Pe (l:List α) (x:α):gV p r (l++[x])=(gV p r l&&(p x&&(match l.getLast? with|none=>true|some y=>r y x))):=by
 induction l with
 |nil=>simp[gV]
 |cons y l ih=>
  rw [List.cons_append,nV,ih,nV];cases l with
  |nil=>simp[gV,Bool.and_comm,Bool.and_left_comm]
  |cons z l=>simp[Bool.and_assoc]
theorem Tv (l m:List α):gV p r (l++m)=true->gV p r l=true:=by
 induction l with
 |nil=>simp[gV]
 |cons y l ih=>
  intro h;rw [List.cons_append,nV] at h;rw [nV];simp only[aES] at h ⊢;refine⟨⟨h.1.1,?_⟩,ih h.2⟩;cases l with
  |nil=>simp
  |cons z l=>simpa using h.1.2
theorem sJ (l:List α) (h:0 < l.length):gV p r (l.take 1)=p l[0]:=by
 match l,h with
 |x::l,_=>simp[gV]
theorem wD (l:List α) (k:Nat) (h:k+1 < l.length):gV p r (l.take (k+2))=(gV p r (l.take (k+1))&&(p l[k+1]&&r l[k] l[k+1])):=by
 rw [aEV h,Pe]
 have e:(l.take (k+1)).getLast?=some l[k]:=by
  rw [aEV Aaa,List.getLast?_append];simp
 rw [e]
theorem pV (l:List α) (k:Nat) (h:gV p r (l.take k)=false):gV p r l=false:=by
 cases hc:gV p r l with
 |false=>rfl
 |true=>
  rw [<-aFE k l] at hc;rw [Tv p r _ _ hc] at h;cases h
end
def kE (id par x:Int):Bool:=uV x&&decide (x≠id)&&decide (x≠par)
def iL (x y:Int):Bool:=decide (x < y)
def eu (n:Nd):Bool:=uV n.id&&decide (-1<=n.par/\n.par<=29)&&decide (n.par≠n.id)&&decide (n.kids.length<=30)&&gV (kE n.id n.par) iL n.kids
def hasB (l:List Int) (x:Int):Bool:=l.any λy=>decide (y=x)
def dV (n:Nd) (x:Int):Bool:=(decide (0<=x)&&decide (x=n.par))||hasB n.kids x
def D7 (low x:Int):Bool:=decide (low<=x/\x<=1000000000)
def vX (s:Sn):Bool:=fH s.l&&decide (s.ids.length<=40)&&gV (D7 s.l) iL s.ids
def oC (n:Nd):Bool:=decide ((n.seen.length:Int)=n.kids.length+(if 0<=n.par then 1 else 0))&&gV (λs=>dV n s.f&&vX s) (λs t=>iL s.f t.f) n.seen
def wN (n:Nd) (o:jC):Bool:=decide (1<=o.i/\o.i<=n.next - 1)&&dV n o.t&&keyOk o.k.data.toList&&fH o.n
def tK (n:Nd) (q:Rq):Bool:=decide (n.old+1<=q.no/\q.no<=1000000000)&&keyOk q.k.data.toList&&fH q.n&&decide (0<=q.s/\q.s<=2)
def sW (n:Nd):Bool:=decide (n.out.length<=40)&&gV (wN n) (λs t=>iL s.i t.i) n.out
def gX (n:Nd):Bool:=rA n.old&&decide (n.reqs.length<=30)&&gV (tK n) (λs t=>iL s.no t.no) n.reqs
def dR (n:Nd):Bool:=eu n&&jm n.pu&&oC n&&fH n.next&&sW n&&gX n
end Mth
namespace Mth
def yE {α:Type} (key:α->Int) (y0:Int) (l:List α):Int:=(l.getLast?.map key).getD y0
theorem uS {α:Type} (key:α->Int) (y0:Int) (l:List α) (k:Nat) (h:k < l.length):yE key y0 (l.take (k+1))=key l[k]:=by
 unfold yE;rw [aEV h,List.getLast?_append];simp
theorem zW {α:Type} (p:α->Bool) (key:α->Int) (y0:Int) (hp:∀x,p x=true->y0 < key x) (l:List α) (k:Nat) (h:k < l.length):
 gV p (λs t=>iL (key s) (key t)) (l.take (k+1))=(gV p (λs t=>iL (key s) (key t)) (l.take k)&&(p l[k]&&decide (yE key y0 (l.take k) < key l[k]))):=by
 grind [yE,iL,Pe,List.take_succ_eq_append_getElem]
theorem zX {α:Type} {p:α->Bool} {r:α->α->Bool} {l:List α} (h:gV p r l=true):∀x∈l,p x=true:=by
 induction l with
 |nil=>intro x hx;simp at hx
 |cons y l ih=>
  rw [nV] at h;simp only[aES] at h;intro x hx;rcases aE8.1 hx with rfl|hx
  .exact h.1.1
  .exact ih h.2 x hx
theorem BQ {α:Type} {p:α->Bool} {r:α->α->Bool} {key:α->Int} {y0:Int} {l:List α} (hp:∀x,p x=true->y0 < key x) (h:gV p r l=true):y0<=yE key y0 l:=by
 unfold yE;cases hg:l.getLast? with
 |none=>simp
 |some y=>
  have:=hp y (zX h y (List.mem_of_getLast? hg));simp;omega
theorem uG {α:Type} {p:α->Bool} {r:α->α->Bool} (ht:∀a b c,r a b=true->r b c=true->r a c=true) {l:List α}:gV p r l=true↔(∀x∈l,p x=true)/\l.Pairwise (λa b=>r a b=true):=by
 induction l with
 |nil=>simp[gV]
 |cons x l ih=>
  rw [nV];simp only[aES,ih,aFM,aE8,forall_eq_or_imp];constructor
  .rintro⟨⟨h1,h2⟩,h3,h4⟩;refine⟨⟨h1,h3⟩,?_,h4⟩;cases l with
   |nil=>intro a ha;simp at ha
   |cons y l=>
    simp only[List.head?_cons] at h2;intro a ha;rcases aE8.1 ha with rfl|ha
    .exact h2
    .exact ht x y a h2 ((aFM.1 h4).1 a ha)
  .rintro⟨⟨h1,h3⟩,h2,h4⟩;refine⟨⟨h1,?_⟩,h3,h4⟩;cases l with
   |nil=>simp
   |cons y l=>exact h2 y Aac
theorem aeZ {α:Type} {p q:α->Bool} {r:α->α->Bool} {l:List α}:gV (λx=>p x&&q x) r l=(gV p r l&&l.all q):=by
 induction l with
 |nil=>simp[gV]
 |cons x l ih=>
  rw [nV,ih,nV,List.all_cons];generalize p x=a;generalize q x=b;generalize gV p r l=d;generalize l.all q=e;cases a<;>cases b<;>cases d<;>cases e<;>simp
theorem akt:∀(B A:List Int),A.Pairwise (· < ·)->B.Pairwise (· < ·)->(∀x∈A,x∈B)->A.length<=B.length:=by
 intro B;induction B with
 |nil=>
  intro A _ _ hs;cases A with
  |nil=>simp
  |cons a A=>exact absurd (hs a Aac) Aac
 |cons b B ih=>
  intro A hA hB hs;cases A with
  |nil=>simp
  |cons a A=>
   exact ahE
theorem aks:∀(B A:List Int),A.Pairwise (· < ·)->B.Pairwise (· < ·)->(∀x∈A,x∈B)->B.length<=A.length->A=B:=by
 intro B;induction B with
 |nil=>
  intro A _ _ hs _;cases A with
  |nil=>rfl
  |cons a A=>exact absurd (hs a Aac) Aac
 |cons b B ih=>
  intro A hA hB hs hl;cases A with
  |nil=>simp at hl
  |cons a A=>
   exact ahE
def rE (n:Nd):List Int:=n.kids++(if n.par= -1 then[] else[n.par])
def ZE (l:List Int):List Int:=l.mergeSort λx y=>decide (x<=y)
theorem qR (l:List Int):(ZE l).length=l.length:=List.length_mergeSort l
theorem Nz (l:List Int) (x:Int):x∈ZE l↔x∈l:=(List.mergeSort_perm l _).mem_iff
theorem afV {l:List Int} (h:l.Nodup):(ZE l).Pairwise (· < ·):=by
 have h1:(ZE l).Pairwise (λx y=>decide (x<=y)=true):=List.pairwise_mergeSort (le:=λx y:Int=>decide (x<=y)) (λa b c h1 h2=>by simp at *;omega) (λa b=>Aah) l;have h2:(ZE l).Nodup:=(List.mergeSort_perm l _).symm.nodup h;exact(h1.and h2).imp (λ{a b} h=>by have:=aE5 h.1;have:=h.2;omega)
theorem Aj (l:List Int) (x:Int):hasB l x=true↔x∈l:=by
 grind [hasB]
theorem nI (a b c:Int) (h1:iL a b=true) (h2:iL b c=true):iL a c=true:=by
 unfold iL at *;simp at *;omega
theorem qG {n:Nd} (h:eu n=true):(∀x∈n.kids,kE n.id n.par x=true)/\n.kids.Pairwise (· < ·)/\ -1<=n.par:=by
 grind [iL,eu,uG,nI]
theorem Us {n:Nd} (h:eu n=true):(rE n).Nodup:=by
 obtain⟨h1,h2,_⟩:=qG h;have h3:n.kids.Nodup:=h2.imp (λ{a b} h=>Aaa);grind [kE,rE]
theorem F8 {n:Nd} (h:eu n=true) (x:Int):dV n x=true↔x∈rE n:=by
 grind [rE,dV,Aj,qG]
theorem wM {n:Nd} (h:eu n=true):((rE n).length:Int)=n.kids.length+(if 0<=n.par then 1 else 0):=by
 grind [rE,qG]
theorem xR {n:Nd} (hp:eu n=true):oC n=(decide (n.seen.map (·.f)=ZE (rE n))&&n.seen.all vX):=by
 have hnd:=Us hp;have hsr:=afV hnd;unfold oC;rw [aeZ,<-wM hp,<-Bool.and_assoc];congr 1
 rw [aF2,aES,aFo,aFo,uG (λa b c h1 h2=>nI a.f b.f c.f h1 h2)];constructor
 .rintro⟨h1,h2,h3⟩;refine aks _ _ ?_ hsr ?_ ?_
  .rw [List.pairwise_map];exact h3.imp (λ{a b} h=>aE5 h)
  .grind [F8,Nz]
  .rw [qR,aFL];omega
 .intro h;refine⟨?_,?_,?_⟩
  .grind [qR]
  .intro s hs;rw [F8 hp,<-Nz,<-h];exact aGk.2 ⟨s,hs,rfl⟩
  .rw [<-h,List.pairwise_map] at hsr;exact hsr.imp (λ{a b} h=>aEO h)
end Mth
set_option maxRecDepth 100000
theorem cK {w:World} {g:Nat} {o:Obj} (h:w.heap[g]?=some o):g < w.heap.size:=by
 exact aa7
theorem aI {w w':World} {g:Nat} {o:Obj} (h:w.heap[g]?=some o) (hb:aH w w'):w'.heap[g]?=some o:=by
 rw [hb.block g (cK h)];exact h
theorem cells3 {w:World} {g:Nat} {a0 a1 a2:Value} {t:TypeId} (h:w.heap[g]?=some (.cells #[a0,a1,a2] t (0,0))):
 w.cell? ⟨g,0,none⟩=some a0/\w.cell? ⟨g,1,none⟩=some a1/\w.cell? ⟨g,2,none⟩=some a2:=by
 have hc:∀i,w.cell? ⟨g,i,none⟩=#[a0,a1,a2][i]?:=λi=>aEW w g i _ t (0,0) h
 exact⟨hc 0,hc 1,hc 2⟩
theorem LC {w:World} {g:Nat} {a0 a1 a2 a3:Value} {t:TypeId} (h:w.heap[g]?=some (.cells #[a0,a1,a2,a3] t (0,0))):
 w.cell? ⟨g,0,none⟩=some a0/\w.cell? ⟨g,1,none⟩=some a1/\w.cell? ⟨g,2,none⟩=some a2/\w.cell? ⟨g,3,none⟩=some a3:=by
 have hc:∀i,w.cell? ⟨g,i,none⟩=#[a0,a1,a2,a3][i]?:=λi=>aEW w g i _ t (0,0) h
 exact⟨hc 0,hc 1,hc 2,hc 3⟩
theorem LD {w:World} {g:Nat} {a0 a1 a2 a3 a4 a5:Value} {t:TypeId} (h:w.heap[g]?=some (.cells #[a0,a1,a2,a3,a4,a5] t (0,0))):
 w.cell? ⟨g,0,none⟩=some a0/\w.cell? ⟨g,1,none⟩=some a1/\w.cell? ⟨g,2,none⟩=some a2/\w.cell? ⟨g,3,none⟩=some a3/\w.cell? ⟨g,4,none⟩=some a4/\w.cell? ⟨g,5,none⟩=some a5:=by
 have hc:∀i,w.cell? ⟨g,i,none⟩=#[a0,a1,a2,a3,a4,a5][i]?:=λi=>aEW w g i _ t (0,0) h
 exact⟨hc 0,hc 1,hc 2,hc 3,hc 4,hc 5⟩
theorem uF {w:World} {g:Nat} {a0 a1 a2 a3 a4 a5 a6:Value} {t:TypeId} (h:w.heap[g]?=some (.cells #[a0,a1,a2,a3,a4,a5,a6] t (0,0))):
 w.cell? ⟨g,0,none⟩=some a0/\w.cell? ⟨g,1,none⟩=some a1/\w.cell? ⟨g,2,none⟩=some a2/\w.cell? ⟨g,3,none⟩=some a3/\w.cell? ⟨g,4,none⟩=some a4/\w.cell? ⟨g,5,none⟩=some a5/\w.cell? ⟨g,6,none⟩=some a6:=by
 have hc:∀i,w.cell? ⟨g,i,none⟩=#[a0,a1,a2,a3,a4,a5,a6][i]?:=λi=>aEW w g i _ t (0,0) h
 exact⟨hc 0,hc 1,hc 2,hc 3,hc 4,hc 5,hc 6⟩
theorem xO (F T:Int) (r:Bool) (w:World) (h:mV F T=r):Calls Tryz.prog 342 #[.agg #[.int .i64 F,.int .i64 T]] w (dM w (.bool r)):=by
 subst h;cases h1:uV F
 case' false=>
  have HP:=Hq (show mV F T=false by simp[mV,h1]);have H1:=Hq (λw1=>isNode F false w1 h1);clear h1;exact aip
 have H1:=Hq (λw1=>isNode F true w1 h1);cases h2:uV T
 case' false=>
  have HP:=Hq (show mV F T=false by simp[mV,h2])
  have H2:=Hq (λw1=>isNode T false w1 h2)
  open avv in exact ahh
 have H2:=Hq (λw1=>isNode T true w1 h2);by_cases hft:F=T
 case' pos=>
  have HP:=Hq (show mV F T=false by simp[mV,hft]);clear h1 h2;subst hft;exact aip
 have HP:=Hq (show mV F T=true by simp[mV,h1,h2,hft]);have he:(F != T)=true:=by simp[hft]
 open avu in exact ahh
theorem NJ (F T:Int) (k:ByteArray) (N:Int) (r:Bool) (w:World) (h:(mV F T&&keyOk k.data.toList&&fH N)=r):Calls Tryz.prog 343 #[.agg #[.int .i64 F,.int .i64 T,.string k,.int .i64 N]] w (dM w (.bool r)):=by
 have HQ:=Hq h;clear h;cases hr:mV F T
 case' false=>
  have HP:=Hq (show(mV F T&&keyOk k.data.toList&&fH N)=false by simp[hr]);have HR:=Hq (λw1=>xO F T false w1 hr);clear hr;go_in
  go_wp2_with (first|(go_at_call 342;refine(HR _).mono ?_;rintro e w2 ⟨rfl,hb2⟩;have hA:=aI (aEK w _) hb2;have hB:=(au w _).trans (hb2.mono Aac);obtain⟨c0,c1,c2,c3⟩:=LC hA;have hz:=cK hA;clear hA hb2))
  exact zT
 have HR:=Hq (λw1=>xO F T true w1 hr);cases hc0:keyOk k.data.toList
 case' false=>
  have HP:=Hq (show(mV F T&&keyOk k.data.toList&&fH N)=false by simp[hr,hc0]);have NV:=Hq (λw1=>iq k false w1 hc0);clear hr hc0;go_in
  go_wp2_with (first|(go_at_call 342;refine(HR _).mono ?_;rintro e w2 ⟨rfl,hb2⟩;have hA:=aI (aEK w _) hb2;have hB:=(au w _).trans (hb2.mono Aac);obtain⟨c0,c1,c2,c3⟩:=LC hA;have hz:=cK hA;clear hA hb2)|(go_at_call_of 190 k;refine(NV _).mono ?_;rintro e w1 ⟨rfl,rfl⟩))
  exact zT
 have NV:=Hq (λw1=>iq k true w1 hc0);cases hc1:fH N
 case' false=>
  have HP:=Hq (show(mV F T&&keyOk k.data.toList&&fH N)=false by simp[hr,hc0,hc1]);have NW:=Hq (λw1=>aO N false w1 hc1);exact axS
 have NW:=Hq (λw1=>aO N true w1 hc1);have HP:=Hq (show(mV F T&&keyOk k.data.toList&&fH N)=true by simp[hr,hc0,hc1]);exact axS
theorem aje (F T I L:Int) (k:ByteArray) (N:Int) (r:Bool) (w:World) (h:(mV F T&&fH I&&decide (1<=L)&&decide (L<=I)&&keyOk k.data.toList&&fH N)=r):Calls Tryz.prog 344 #[.agg #[.int .i64 F,.int .i64 T,.int .i64 I,.int .i64 L,.string k,.int .i64 N]] w (dM w (.bool r)):=by
 have HQ:=Hq h;clear h;cases hr:mV F T
 case' false=>
  have HP:=Hq (show(mV F T&&fH I&&decide (1<=L)&&decide (L<=I)&&keyOk k.data.toList&&fH N)=false by simp[hr]);have HR:=Hq (λw1=>xO F T false w1 hr);clear hr;go_in
  go_wp2_with (first|(go_at_call 342;refine(HR _).mono ?_;rintro e w2 ⟨rfl,hb2⟩;have hA:=aI (aEK w _) hb2;have hB:=(au w _).trans (hb2.mono Aac);obtain⟨c0,c1,c2,c3,c4,c5⟩:=LD hA;have hz:=cK hA;clear hA hb2))
  exact zT
 have HR:=Hq (λw1=>xO F T true w1 hr);cases hc0:fH I
 case' false=>
  have HP:=Hq (show(mV F T&&fH I&&decide (1<=L)&&decide (L<=I)&&keyOk k.data.toList&&fH N)=false by simp[hr,hc0]);have NV:=Hq (λw1=>aO I false w1 hc0);exact akf
 have NV:=Hq (λw1=>aO I true w1 hc0);by_cases hd1:1<=L
 case' neg=>
  have HP:=Hq (show(mV F T&&fH I&&decide (1<=L)&&decide (L<=I)&&keyOk k.data.toList&&fH N)=false by simp[hr,hc0,hd1]);exact akf
 by_cases hd2:L<=I
 case' neg=>
  have HP:=Hq (show(mV F T&&fH I&&decide (1<=L)&&decide (L<=I)&&keyOk k.data.toList&&fH N)=false by simp[hr,hc0,hd1,hd2]);exact akf
 cases hc1:keyOk k.data.toList
 case' false=>
  have HP:=Hq (show(mV F T&&fH I&&decide (1<=L)&&decide (L<=I)&&keyOk k.data.toList&&fH N)=false by simp[hr,hc0,hd1,hd2,hc1]);have NW:=Hq (λw1=>iq k false w1 hc1);clear hr hc0 hc1;go_in
  go_wp2_with (first|(go_at_call 342;refine(HR _).mono ?_;rintro e w2 ⟨rfl,hb2⟩;have hA:=aI (aEK w _) hb2;have hB:=(au w _).trans (hb2.mono Aac);obtain⟨c0,c1,c2,c3,c4,c5⟩:=LD hA;have hz:=cK hA;clear hA hb2)|(go_at_call_of 170 I;refine(NV _).mono ?_;rintro e w1 ⟨rfl,rfl⟩)|(go_at_call_of 190 k;refine(NW _).mono ?_;rintro e w1 ⟨rfl,rfl⟩))
  exact zT
 have NW:=Hq (λw1=>iq k true w1 hc1);cases hc2:fH N
 case' false=>
  have HP:=Hq (show(mV F T&&fH I&&decide (1<=L)&&decide (L<=I)&&keyOk k.data.toList&&fH N)=false by simp[hr,hc0,hd1,hd2,hc1,hc2]);have CY:=Hq (λw1=>aO N false w1 hc2);exact axO
 have CY:=Hq (λw1=>aO N true w1 hc2);have HP:=Hq (show(mV F T&&fH I&&decide (1<=L)&&decide (L<=I)&&keyOk k.data.toList&&fH N)=true by simp[hr,hc0,hd1,hd2,hc1,hc2]);exact axO
theorem OZ (F T I:Int) (r:Bool) (w:World) (h:(mV F T&&fH I)=r):Calls Tryz.prog 345 #[.agg #[.int .i64 F,.int .i64 T,.int .i64 I]] w (dM w (.bool r)):=by
 have HQ:=Hq h;clear h;cases hr:mV F T
 case' false=>
  have HP:=Hq (show(mV F T&&fH I)=false by simp[hr]);have HR:=Hq (λw1=>xO F T false w1 hr);clear hr;go_in
  go_wp2_with (first|(go_at_call 342;refine(HR _).mono ?_;rintro e w2 ⟨rfl,hb2⟩;have hA:=aI (aEK w _) hb2;have hB:=(au w _).trans (hb2.mono Aac);obtain⟨c0,c1,c2⟩:=cells3 hA;have hz:=cK hA;clear hA hb2))
  exact zT
 have HR:=Hq (λw1=>xO F T true w1 hr);cases hc0:fH I
 case' false=>
  have HP:=Hq (show(mV F T&&fH I)=false by simp[hr,hc0]);have NV:=Hq (λw1=>aO I false w1 hc0);exact axV
 have NV:=Hq (λw1=>aO I true w1 hc0);have HP:=Hq (show(mV F T&&fH I)=true by simp[hr,hc0]);exact axV
namespace Mth
structure gJ where
 K:Int
 no:Int
 k:ByteArray
 n:Int
 m:Mg
def lU (m:Mg):Bool:=decide (m.K=0/\m.F=0/\m.T=0/\m.I=0/\m.L=0/\m.k.toList=[]/\m.N=0)
def bH (o:gJ):Bool:=
 if o.K=0\/o.K=3\/o.K=4 then keyOk o.k.data.toList&&fH o.n&&decide (o.no=0)&&lU o.m
 else if o.K=1 then keyOk o.k.data.toList&&fH o.n&&fH o.no&&lU o.m
 else if o.K=2 then decide (o.k.toList=[])&&decide (o.n=0)&&fH o.no&&lU o.m
 else if o.K=5 then decide (o.k.toList=[])&&decide (o.n=0)&&decide (o.no=0)&&lU o.m
 else if o.K=6 then decide (o.k.toList=[])&&decide (o.n=0)&&decide (o.no=0)&&bV o.m
 else false
end Mth
abbrev bJ (K no:Int) (k:ByteArray) (nn mK mF mT mI mL:Int) (mk:ByteArray) (mN:Int):Array Value:=#[.int .i64 K,.int .i64 no,.string k,.int .i64 nn,.int .i64 mK,.int .i64 mF,.int .i64 mT,.int .i64 mI,.int .i64 mL,.string mk,.int .i64 mN]
abbrev jP (o:gJ):Value:= .agg #[.int .i64 o.K,.int .i64 o.no,.string o.k,.int .i64 o.n,.int .i64 o.m.K,.int .i64 o.m.F,.int .i64 o.m.T,.int .i64 o.m.I,.int .i64 o.m.L,.string o.m.k,.int .i64 o.m.N]
open Go.WideShapes
theorem ajk (m:Mg) (w:World):Calls Tryz.prog 56 #[nZ m] w (dM w (nZ m)):=by
 obtain⟨K,F,T,I,L,k,N⟩:=m;go_in
 go_wp2_with fail;refine aET (v:= .agg (bQ K F T I L k N)) (by simp[results,Tryz.results56,go_sem]) rfl ⟨rfl,?_⟩;exact VW
theorem eD {w:World} {g:Nat} {a0 a1 a2 a3 a4 a5 a6:Value} {t:TypeId} (h:w.heap[g]?=some (.cells #[a0,a1,a2,a3,a4,a5,a6] t (0,0))):
 (w.cell? ⟨g,0,none⟩=some a0/\w.cell? ⟨g,1,none⟩=some a1/\w.cell? ⟨g,2,none⟩=some a2/\w.cell? ⟨g,3,none⟩=some a3/\w.cell? ⟨g,4,none⟩=some a4/\w.cell? ⟨g,5,none⟩=some a5/\w.cell? ⟨g,6,none⟩=some a6)/\
  (w.frozen? ⟨g,0,none⟩=false/\w.frozen? ⟨g,1,none⟩=false/\w.frozen? ⟨g,2,none⟩=false/\w.frozen? ⟨g,3,none⟩=false/\w.frozen? ⟨g,4,none⟩=false/\w.frozen? ⟨g,5,none⟩=false/\w.frozen? ⟨g,6,none⟩=false):=by
 have hf:∀i,w.frozen? ⟨g,i,none⟩=false:=λi=>by unfold World.frozen?;rw [h];simp
 exact⟨uF h,hf 0,hf 1,hf 2,hf 3,hf 4,hf 5,hf 6⟩
theorem blk_set {w:World} {c:Nat} {cs:Array Value} {t:TypeId} (h:w.heap[c]?=some (.cells cs t (0,0))) (i:Nat) (v:Value):(w.setCell ⟨c,i,none⟩ v).heap[c]?=some (.cells (cs.setIfInBounds i v) t (0,0)):=by
 exact VY
theorem one_other {w:World} {g g' i:Nat} {v:Value} {o:Option Obj} (h:w.heap[g']?=o) (hne:g'≠g):(w.setCell ⟨g,i,none⟩ v).heap[g']?=o:=by rw [aE9 _ _ _ _ hne,h]
theorem tY {w:World} {g:Nat} {a0 a1 a2 a3 a4 a5 a6 b0 b1 b2 b3 b4 b5 b6:Value} {t:TypeId} (h:w.heap[g]?=some (.cells #[a0,a1,a2,a3,a4,a5,a6] t (0,0))):
 (((((((w.setCell ⟨g,0,none⟩ b0).setCell ⟨g,1,none⟩ b1).setCell ⟨g,2,none⟩ b2).setCell ⟨g,3,none⟩ b3).setCell ⟨g,4,none⟩ b4).setCell ⟨g,5,none⟩ b5).setCell ⟨g,6,none⟩ b6).heap[g]?=some (.cells #[b0,b1,b2,b3,b4,b5,b6] t (0,0)):=by
 exact(blk_set (blk_set (blk_set (blk_set (blk_set (blk_set (blk_set h 0 b0) 1 b1) 2 b2) 3 b3) 4 b4) 5 b5) 6 b6).trans Aab
theorem rQ {a w:World} {B g:Nat} {b0 b1 b2 b3 b4 b5 b6:Value} (h:Below B a w) (hg:B<=g):
 Below B a (((((((w.setCell ⟨g,0,none⟩ b0).setCell ⟨g,1,none⟩ b1).setCell ⟨g,2,none⟩ b2).setCell ⟨g,3,none⟩ b3).setCell ⟨g,4,none⟩ b4).setCell ⟨g,5,none⟩ b5).setCell ⟨g,6,none⟩ b6):=
 ((((((h.setCell (p:=⟨g,0,none⟩) hg b0).setCell (p:=⟨g,1,none⟩) hg b1).setCell (p:=⟨g,2,none⟩) hg b2).setCell (p:=⟨g,3,none⟩) hg b3).setCell (p:=⟨g,4,none⟩) hg b4).setCell (p:=⟨g,5,none⟩) hg b5).setCell (p:=⟨g,6,none⟩) hg b6
theorem bodyPost_at {P:Program} {fn:Func} {Q:Ending->World->Prop} {x:Exit} {act:Act} {W:World} (h:∀W',W'=W->bodyPost P fn Q x act W'):bodyPost P fn Q x act W:=h W rfl
theorem Lv (v:Value) (w:World):(Instr.typeAssert (.iface 295 v) 256 295 true).run Tryz.prog w= .ok (.tuple #[v,.bool true]) w:=Aab
theorem O6 (v:Value) (w:World):(Instr.typeAssert (.iface 297 v) 256 295 true).run Tryz.prog w= .ok (.tuple #[.agg #[.int .i64 0,.int .i64 0,.string ⟨#[]⟩,.int .i64 0],.bool false]) w:=Aab
theorem Tp (v:Value) (w:World):(Instr.typeAssert (.iface 297 v) 256 297 true).run Tryz.prog w= .ok (.tuple #[v,.bool true]) w:=Aab
theorem O4 (v:Value) (w:World):(Instr.typeAssert (.iface 299 v) 256 295 true).run Tryz.prog w= .ok (.tuple #[.agg #[.int .i64 0,.int .i64 0,.string ⟨#[]⟩,.int .i64 0],.bool false]) w:=Aab
theorem Tn (v:Value) (w:World):(Instr.typeAssert (.iface 299 v) 256 297 true).run Tryz.prog w= .ok (.tuple #[.agg #[.int .i64 0,.int .i64 0,.int .i64 0,.int .i64 0,.string ⟨#[]⟩,.int .i64 0],.bool false]) w:=Aab
theorem Tk (v:Value) (w:World):(Instr.typeAssert (.iface 299 v) 256 299 true).run Tryz.prog w= .ok (.tuple #[v,.bool true]) w:=Aab
theorem yY (F T:Int) (k:ByteArray) (N:Int) (w:World):Calls Tryz.prog 272 #[.iface 295 (.agg #[.int .i64 F,.int .i64 T,.string k,.int .i64 N])] w (dM w (nZ ⟨0,F,T,0,0,k,N⟩)):=by
 have f0:=Lv (.agg #[.int .i64 F,.int .i64 T,.string k,.int .i64 N]);go_in
 go_wp2_with fail;refine aET (v:= .agg (bQ 0 F T 0 0 k N)) Acx rfl ⟨rfl,?_⟩;exact abg
theorem YN (F T I L:Int) (k:ByteArray) (N:Int) (w:World):Calls Tryz.prog 272 #[.iface 297 (.agg #[.int .i64 F,.int .i64 T,.int .i64 I,.int .i64 L,.string k,.int .i64 N])] w (dM w (nZ ⟨1,F,T,I,L,k,N⟩)):=by
 have f0:=O6 (.agg #[.int .i64 F,.int .i64 T,.int .i64 I,.int .i64 L,.string k,.int .i64 N]);have f1:=Tp (.agg #[.int .i64 F,.int .i64 T,.int .i64 I,.int .i64 L,.string k,.int .i64 N]);go_in
 go_wp2_with fail;refine aET (v:= .agg (bQ 1 F T I L k N)) Acx rfl ⟨rfl,?_⟩;exact abg
theorem xJ (F T I:Int) (w:World):Calls Tryz.prog 272 #[.iface 299 (.agg #[.int .i64 F,.int .i64 T,.int .i64 I])] w (dM w (nZ ⟨2,F,T,I,0,ByteArray.empty,0⟩)):=by
 have f0:=O4 (.agg #[.int .i64 F,.int .i64 T,.int .i64 I]);have f1:=Tn (.agg #[.int .i64 F,.int .i64 T,.int .i64 I]);have f2:=Tk (.agg #[.int .i64 F,.int .i64 T,.int .i64 I]);go_in
 go_wp2_with fail;refine aET (v:= .agg (bQ 2 F T I 0 ByteArray.empty 0)) Acx rfl ⟨rfl,?_⟩;exact abg
def kb (K:Int):ByteArray:=⟨[UInt8.ofNat K.toNat].toArray⟩
def AV (m:Mg):ByteArray:=kb m.K++mq m.F++mq m.T++mq m.I++mq m.L++oN m.k++mq m.N
def jL (m:Mg):ByteArray:=if bV m=true then AV m else ByteArray.empty
theorem zi {m:Mg} (h:bV m=true):jL m=AV m:=by unfold jL;rw [aE7 h]
theorem Cw {m:Mg} (h:bV m=false):jL m=ByteArray.empty:=by unfold jL;rw [aEX (by rw [h];simp)]
theorem afw {m:Mg} (h:bV m=true):0<=m.K/\m.K<=2:=by
 unfold bV at h;simp only[aES] at h;obtain⟨_,h⟩:=h;exact aiT
theorem WJ (K:Int):(kb K).size=1:=rfl
theorem Yc (w:World) (g:Nat) (K:Int) (h:0<=K/\K<=2) (hc:w.cell? ⟨g,0,none⟩=some (.int .u8 K)):(convert 127 9 (.slice (some ⟨g,0,none⟩) 1 1)).run Tryz.prog w= .ok (.string (kb K)) w:=by
 exact ax4
def Bc (o:gJ):ByteArray:=kb o.K++mq o.no++oN o.k++mq o.n++oN (jL o.m)
def wP (o:gJ):ByteArray:=if bH o=true then Bc o else ByteArray.empty
theorem Cz {o:gJ} (h:bH o=true):wP o=Bc o:=by unfold wP;rw [aE7 h]
theorem QI {o:gJ} (h:bH o=false):wP o=ByteArray.empty:=by unfold wP;rw [aEX (by rw [h];simp)]
theorem YZ {o:gJ} (h:bH o=true):0<=o.K/\o.K<=6:=by
 unfold bH at h;split at h
 .omega
 .split at h
  .omega
  .exact aiT
theorem TA (w:World) (g:Nat) (K:Int) (h:0<=K/\K<=6) (hc:w.cell? ⟨g,0,none⟩=some (.int .u8 K)):(convert 127 9 (.slice (some ⟨g,0,none⟩) 1 1)).run Tryz.prog w= .ok (.string (kb K)) w:=by
 exact ax4
theorem Vk (K:Int) (h0:0<=K) (h6:K<=6):IntKind.u8.wrap K=K:=by
 have h3:K=0\/K=1\/K=2\/K=3\/K=4\/K=5\/K=6:=Aaa
 rcases h3 with rfl|rfl|rfl|rfl|rfl|rfl|rfl<;>rfl
theorem Wq {w:World} {g:Nat} {v0 v1 v2 v3 v4 v5 v6 v7 v8 v9 v10:Value} {t:TypeId} (h:w.heap[g]?=some (.cells #[v0,v1,v2,v3,v4,v5,v6,v7,v8,v9,v10] t (0,0))):
 w.cell? ⟨g,0,none⟩=some v0/\w.cell? ⟨g,1,none⟩=some v1/\w.cell? ⟨g,2,none⟩=some v2/\w.cell? ⟨g,3,none⟩=some v3/\w.cell? ⟨g,4,none⟩=some v4/\w.cell? ⟨g,5,none⟩=some v5/\w.cell? ⟨g,6,none⟩=some v6/\w.cell? ⟨g,7,none⟩=some v7/\w.cell? ⟨g,8,none⟩=some v8/\w.cell? ⟨g,9,none⟩=some v9/\w.cell? ⟨g,10,none⟩=some v10:=by
 exact ahY
def kQ (s:ByteArray):Nat:=65536*(sums s.data.toList).2+(sums s.data.toList).1
theorem NA (s:ByteArray):kQ s < 4294967296:=by
 have:=sums_lt s.data.toList;unfold kQ;omega
def four (n:Nat):List UInt8:=[UInt8.ofNat (n / 16777216),UInt8.ofNat (n / 65536 % 256),UInt8.ofNat (n / 256 % 256),UInt8.ofNat (n % 256)]
def mJ (n:Nat):ByteArray:=⟨(four n).toArray⟩
theorem JU (w:World) (g n cap:Nat) (h:n < 4294967296) (c0:w.cell? ⟨g,0,none⟩=some (.int .u8 ((n:Int) / 16777216))) (c1:w.cell? ⟨g,1,none⟩=some (.int .u8 ((n:Int) / 65536 % 256)))
 (c2:w.cell? ⟨g,2,none⟩=some (.int .u8 ((n:Int) / 256 % 256))) (c3:w.cell? ⟨g,3,none⟩=some (.int .u8 ((n:Int) % 256))):
 (convert 127 9 (.slice (some ⟨g,0,none⟩) 4 cap)).run Tryz.prog w= .ok (.string (mJ n)) w:=by
 refine aGn (P:=Tryz.prog) w 127 9 5 ⟨g,0,none⟩ cap (four n) Tryz.underlying127 Tryz.underlying5 Tryz.underlying9 ?_;intro j hj;have hj4:j < 4:=hj;have hcase:j=0\/j=1\/j=2\/j=3:=Aaa
 rcases hcase with rfl|rfl|rfl|rfl
 .show w.cell? ⟨g,0,none⟩=_
  rw [c0];simp only[four,aGo];rw [toNat_byte _ Aaa];rfl
 .show w.cell? ⟨g,1,none⟩=_
  rw [c1];simp only[four,List.getElem_cons_succ,aGo];rw [toNat_byte _ Aaa];rfl
 .show w.cell? ⟨g,2,none⟩=_
  rw [c2];simp only[four,List.getElem_cons_succ,aGo];rw [toNat_byte _ Aaa];rfl
 .show w.cell? ⟨g,3,none⟩=_
  rw [c3];simp only[four,List.getElem_cons_succ,aGo];rw [toNat_byte _ Aaa];rfl
theorem afz (n:Nat) (h:n < 4294967296) (w:World):Calls Tryz.prog 96 #[.int .u32 n] w (dM w (.string (mJ n))):=by
 have hcv:=JU (w.alloc (.cells #[.int .u8 ((n:Int) / 16777216),.int .u8 ((n:Int) / 65536 % 256),.int .u8 ((n:Int) / 256 % 256),.int .u8 ((n:Int) % 256)] 5)) w.heap.size n 4 h Aac Aac Aac Aac;go_in
 go_wp2_with fail;go_ret;exact⟨rfl,au w _⟩
theorem adD (s:ByteArray) (hs:s.size<=maxLen) (w:World):Calls Tryz.prog 211 #[.string s] w λe w'=>∃g,e= .returned (.slice (some ⟨g,0,none⟩) 4 4)/\w.heap.size<=g/\w'.heap[g]?=some (.cells #[.int .u8 ((kQ s:Int) / 16777216),.int .u8 ((kQ s:Int) / 65536 % 256),.int .u8 ((kQ s:Int) / 256 % 256),.int .u8 ((kQ s:Int) % 256)] 5 (0,0))/\aH w w':=by
 have hn:=NA s;have HC:=Hq (λw1=>Mh s w1 hs);have e:(65536*(sums s.data.toList).2+(sums s.data.toList).1:Int)=(kQ s:Int):=by unfold kQ;omega
 rw [e] at HC;clear e hs;generalize kQ s=n at *;go_in
 go_wp2_with fail;refine(HC _).mono ?_;rintro e w1 ⟨rfl,rfl⟩;go_wp2_with fail;go_ret;exact⟨w.heap.size,rfl,aEM _,aEK w _,au w _⟩
end Go.Proofs.YtbolgdleijjgfaaGreatDoor
