/- Parts. -/
import Derived.Test.YtacgbldlonoaaaaGreatDoorRa4
namespace Go.Proofs.YtacgbldlonoaaaaGreatDoor
set_option maxHeartbeats 4000000
set_option maxRecDepth 100000
open Go.RowKit
open Mth
namespace Mth
instance:Inhabited Mg:=⟨⟨0,0,0,0,0,ByteArray.empty,0⟩⟩
abbrev gX (m:Mg):List Value:=[.int .i64 m.K,.int .i64 m.F,.int .i64 m.T,.int .i64 m.I,.int .i64 m.L,.string m.k,.int .i64 m.N]
theorem iR (m:Mg):(gX m).length=7:=rfl
theorem zu:∀(m:Mg),∀u∈gX m,u.oneCell'=true:=by
 intro m u hu;simp only[gX,List.mem_cons,List.not_mem_nil,or_false] at hu;rcases hu with rfl|rfl|rfl|rfl|rfl|rfl|rfl<;>rfl
def qP (l:List jm) (t ab:Int):Int:=((l.find? fun o=>decide (o.t=t)).map (·.i)).getD ab
def lG (n:Nd) (s:jm):Mg:=⟨1,n.id,s.t,s.i,qP n.out s.t s.i,s.k,s.n⟩
def Te (n:Nd):List Mg:=if dG n then n.out.map (lG n) else[]
theorem zw {α:Type} (f:α→Bool) (l:List α) (i:Nat) (hi:i < l.length) (h:(l.take i).find? f=none):(f l[i]=true→l.find? f=some l[i])∧(f l[i]=false→(l.take (i+1)).find? f=none):=by
 exact amY
theorem Mk {l:List jm} {t ab:Int} {k:Nat} (hk:k < l.length) (h:(l.take k).find? (fun o=>decide (o.t=t))=none) (ht:(l[k]).t=t):qP l t ab=(l[k]).i:=by
 unfold qP;rw [(zw _ l k hk h).1 (decide_eq_true ht)];rfl
theorem Ij {l:List jm} {t:Int} {k:Nat} (hk:k < l.length) (h:(l.take k).find? (fun o=>decide (o.t=t))=none) (ht:¬(l[k]).t=t):(l.take (k+1)).find? (fun o=>decide (o.t=t))=none:=
 (zw _ l k hk h).2 (decide_eq_false ht)
theorem Sz {l:List jm} {t ab:Int} (h:(l.take l.length).find? (fun o=>decide (o.t=t))=none):qP l t ab=ab:=by
 rw [List.take_length] at h;unfold qP;rw [h];rfl
end Mth
theorem Et:(Tryz.prog.info? 32).map (fun i=>(i.zero,i.size,i.bytes))=some (some (.agg #[.int .i64 0,.int .i64 0,.int .i64 0,.int .i64 0,.int .i64 0,.string ByteArray.empty,.int .i64 0]),7,64):=by kernel_rfl
abbrev Qn (w:World) (a:Option Addr) (l:List Mg):Prop:=GR.At gX 7 w a l
theorem Qn.seven {w:World} {a:Option Addr} {l:List Mg} (h:Qn w a l) (i:Nat) (hi:i < l.length):∃g off,a=some ⟨g,off,none⟩∧g < w.heap.size∧w.cell? ⟨g,off+i*7,none⟩=some (.int .i64 l[i].K)∧w.cell? ⟨g,off+i*7+1,none⟩=some (.int .i64 l[i].F)∧w.cell? ⟨g,off+i*7+2,none⟩=some (.int .i64 l[i].T)∧w.cell? ⟨g,off+i*7+3,none⟩=some (.int .i64 l[i].I)∧w.cell? ⟨g,off+i*7+4,none⟩=some (.int .i64 l[i].L)∧w.cell? ⟨g,off+i*7+5,none⟩=some (.string l[i].k)∧w.cell? ⟨g,off+i*7+6,none⟩=some (.int .i64 l[i].N):=by
 obtain⟨g,off,e,hg,hc⟩:=h i hi;refine⟨g,off,e,hg,?_,?_,?_,?_,?_,?_,?_⟩
 ·simpa using hc 0 (by omega)
 ·simpa [Nat.add_assoc] using hc 1 (by omega)
 ·simpa [Nat.add_assoc] using hc 2 (by omega)
 ·simpa [Nat.add_assoc] using hc 3 (by omega)
 ·simpa [Nat.add_assoc] using hc 4 (by omega)
 ·simpa [Nat.add_assoc] using hc 5 (by omega)
 ·simpa [Nat.add_assoc] using hc 6 (by omega)
theorem iq {w:World} {g:Nat} {v0 v1 v2 v3 v4 v5 v6:Value} {t:TypeId} (h:w.heap[g]?=some (.cells #[v0,v1,v2,v3,v4,v5,v6] t (0,0))):
 w.cell? ⟨g,0,none⟩=some v0∧w.cell? ⟨g,1,none⟩=some v1∧w.cell? ⟨g,2,none⟩=some v2∧w.cell? ⟨g,3,none⟩=some v3∧w.cell? ⟨g,4,none⟩=some v4∧w.cell? ⟨g,5,none⟩=some v5∧w.cell? ⟨g,6,none⟩=some v6:=by
 have hc:∀i,w.cell? ⟨g,i,none⟩=#[v0,v1,v2,v3,v4,v5,v6][i]?:=fun i=>cell_of_row w g i _ t (0,0) h
 exact⟨hc 0,hc 1,hc 2,hc 3,hc 4,hc 5,hc 6⟩
theorem uw {w:World} {g:Nat} {a0 a1 a2 a3 a4 a5 a6 b0 b1 b2 b3 b4 b5 b6:Value} {t:TypeId} (h:w.heap[g]?=some (.cells #[a0,a1,a2,a3,a4,a5,a6] t (0,0))):
 (((((((w.setCell ⟨g,0,none⟩ b0).setCell ⟨g,1,none⟩ b1).setCell ⟨g,2,none⟩ b2).setCell ⟨g,3,none⟩ b3).setCell ⟨g,4,none⟩ b4).setCell ⟨g,5,none⟩ b5).setCell ⟨g,6,none⟩ b6).heap[g]?=some (.cells #[b0,b1,b2,b3,b4,b5,b6] t (0,0)):=by
 have h0:(w.setCell ⟨g,0,none⟩ b0).heap[g]?=some (.cells #[b0,a1,a2,a3,a4,a5,a6] t (0,0)):=bg h 0 b0;have h1:((w.setCell ⟨g,0,none⟩ b0).setCell ⟨g,1,none⟩ b1).heap[g]?=some (.cells #[b0,b1,a2,a3,a4,a5,a6] t (0,0)):=bg h0 1 b1;have h2:(((w.setCell ⟨g,0,none⟩ b0).setCell ⟨g,1,none⟩ b1).setCell ⟨g,2,none⟩ b2).heap[g]?=some (.cells #[b0,b1,b2,a3,a4,a5,a6] t (0,0)):=bg h1 2 b2;have h3:((((w.setCell ⟨g,0,none⟩ b0).setCell ⟨g,1,none⟩ b1).setCell ⟨g,2,none⟩ b2).setCell ⟨g,3,none⟩ b3).heap[g]?=some (.cells #[b0,b1,b2,b3,a4,a5,a6] t (0,0)):=bg h2 3 b3;have h4:(((((w.setCell ⟨g,0,none⟩ b0).setCell ⟨g,1,none⟩ b1).setCell ⟨g,2,none⟩ b2).setCell ⟨g,3,none⟩ b3).setCell ⟨g,4,none⟩ b4).heap[g]?=some (.cells #[b0,b1,b2,b3,b4,a5,a6] t (0,0)):=bg h3 4 b4;have h5:((((((w.setCell ⟨g,0,none⟩ b0).setCell ⟨g,1,none⟩ b1).setCell ⟨g,2,none⟩ b2).setCell ⟨g,3,none⟩ b3).setCell ⟨g,4,none⟩ b4).setCell ⟨g,5,none⟩ b5).heap[g]?=some (.cells #[b0,b1,b2,b3,b4,b5,a6] t (0,0)):=bg h4 5 b5;exact bg h5 6 b6
theorem pV {w:World} {g:Nat} {b0 b1 b2 b3 b4 b5 b6:Value}:aC [g] w (((((((w.setCell ⟨g,0,none⟩ b0).setCell ⟨g,1,none⟩ b1).setCell ⟨g,2,none⟩ b2).setCell ⟨g,3,none⟩ b3).setCell ⟨g,4,none⟩ b4).setCell ⟨g,5,none⟩ b5).setCell ⟨g,6,none⟩ b6):=
 ((((((aC.set b0).trans (aC.set b1)).trans (aC.set b2)).trans (aC.set b3)).trans (aC.set b4)).trans (aC.set b5)).trans (aC.set b6)
abbrev zm7:Array Value:=#[.int .i64 0,.int .i64 0,.int .i64 0,.int .i64 0,.int .i64 0,.string ⟨#[]⟩,.int .i64 0]
theorem Wi (n:Nd) (A:bE) (t ab:Int) (w:World) (hl:n.out.length≤1048600) (ha:SentAt w A.o n.out):
 Calls Tryz.prog 127 #[gu n A,.int .i64 t,.int .i64 ab] w fun e w'=>e= .returned (.int .i64 (qP n.out t ab))∧Below w.heap.size w w':=by
 have HA:=hide (GR.At.below ha (au w (.cells (fZ n A) 30)));have hblk:=heap_alloc_new w (.cells (fZ n A) 30);obtain⟨c0,c1,c2,c3,c4,c5,c6,c7,c8⟩:=nine hblk;have TR:=hide (fun k hk h=> @Mk n.out t ab k hk h);have uG:=hide (fun k hk h=> @Ij n.out t k hk h);have yL:=hide (@Sz n.out t ab);clear ha hblk;generalize qP n.out t ab=LO at *;open aga in exact wS
theorem Dc (n:Nd) (A:bE) (s:jm) (w:World) (hl:n.out.length≤1048600) (ha:SentAt w A.o n.out):
 Calls Tryz.prog 126 #[gu n A,Xe s] w fun e w'=>e= .returned (nX (lG n s))∧Below w.heap.size w w':=by
 have HA:=hide ha;have TR:=hide (fun k hk h=> @Mk n.out s.t s.i k hk h);have uG:=hide (fun k hk h=> @Ij n.out s.t k hk h);have yL:=hide (@Sz n.out s.t s.i);have Pe:Hid (lG n s=⟨1,n.id,s.t,s.i,qP n.out s.t s.i,s.k,s.n⟩):=rfl;obtain⟨hP,hR,hO,hB⟩:=D8 w (.cells (fZ n A) 30) (.cells #[.int .i64 s.i,.int .i64 s.t,.string s.k,.int .i64 s.n] 95) (.cells zm7 32);have HP:=hide hP;have HR:=hide hR;have HO:=hide hO;have HB:=hide hB;clear ha hP hR hO hB;rw [ah Pe];generalize qP n.out s.t s.i=LO at *;open af9 in exact wS
namespace Mth
def sK {α:Type} (key:α→Int) (y0:Int) (l:List α):Int:=(l.getLast?.map key).getD y0
theorem pE {α:Type} (key:α→Int) (y0:Int) (l:List α) (k:Nat) (h:k < l.length):sK key y0 (l.take (k+1))=key l[k]:=by
 unfold sK;rw [List.take_succ_eq_append_getElem h,List.getLast?_append];simp
theorem uS {α:Type} (p:α→Bool) (key:α→Int) (y0:Int) (hp:∀x,p x=true→y0 < key x) (l:List α) (k:Nat) (h:k < l.length):
 fT p (fun s t=>gJ (key s) (key t)) (l.take (k+1))=(fT p (fun s t=>gJ (key s) (key t)) (l.take k)&&(p l[k]&&decide (sK key y0 (l.take k) < key l[k]))):=by
 rw [List.take_succ_eq_append_getElem h,Gw];unfold sK;cases hg:(l.take k).getLast? with
 |none=>
  cases hx:p l[k] with
  |false=>simp
  |true=>simp[hp _ hx]
 |some y=>simp[gJ]
theorem uT {α:Type} {p:α→Bool} {r:α→α→Bool} {l:List α} (h:fT p r l=true):∀x∈l,p x=true:=by
 induction l with
 |nil=>intro x hx;simp at hx
 |cons y l ih=>
  rw [kX] at h
  simp only[Bool.and_eq_true] at h
  intro x hx
  rcases List.mem_cons.1 hx with rfl|hx
  ·exact h.1.1
  ·exact ih h.2 x hx
theorem wT {α:Type} {p:α→Bool} {r:α→α→Bool} {key:α→Int} {y0:Int} {l:List α} (hp:∀x,p x=true→y0 < key x) (h:fT p r l=true):y0≤sK key y0 l:=by
 unfold sK;cases hg:l.getLast? with
 |none=>simp
 |some y=>
  have:=hp y (uT h y (List.mem_of_getLast? hg))
  simp
  omega
theorem oN {α:Type} {p:α→Bool} {r:α→α→Bool} (ht:∀a b c,r a b=true→r b c=true→r a c=true) {l:List α}:fT p r l=true↔(∀x∈l,p x=true)∧l.Pairwise (fun a b=>r a b=true):=by
 induction l with
 |nil=>simp[fT]
 |cons x l ih=>
  rw [kX]
  simp only[Bool.and_eq_true,ih,List.pairwise_cons,List.mem_cons,forall_eq_or_imp]
  constructor
  ·rintro⟨⟨h1,h2⟩,h3,h4⟩;refine⟨⟨h1,h3⟩,?_,h4⟩;cases l with
   |nil=>intro a ha;simp at ha
   |cons y l=>
    simp only[List.head?_cons] at h2
    intro a ha
    rcases List.mem_cons.1 ha with rfl|ha
    ·exact h2
    ·exact ht x y a h2 ((List.pairwise_cons.1 h4).1 a ha)
  ·rintro⟨⟨h1,h3⟩,h2,h4⟩;refine⟨⟨h1,?_⟩,h3,h4⟩;cases l with
   |nil=>simp
   |cons y l=>exact h2 y (by simp)
theorem Vp {α:Type} {p q:α→Bool} {r:α→α→Bool} {l:List α}:fT (fun x=>p x&&q x) r l=(fT p r l&&l.all q):=by
 induction l with
 |nil=>simp[fT]
 |cons x l ih=>
  rw [kX,ih,kX,List.all_cons]
  generalize p x=a
  generalize q x=b
  generalize fT p r l=d
  generalize l.all q=e
  cases a<;>cases b<;>cases d<;>cases e<;>simp
theorem JR:∀(B A:List Int),A.Pairwise (· < ·)→B.Pairwise (· < ·)→(∀x∈A,x∈B)→A.length≤B.length:=by
 intro B;induction B with
 |nil=>
  intro A _ _ hs
  cases A with
  |nil=>simp
  |cons a A=>exact absurd (hs a (by simp)) (by simp)
 |cons b B ih=>
  intro A hA hB hs
  cases A with
  |nil=>simp
  |cons a A=>
   have hA':=List.pairwise_cons.1 hA
   have hB':=List.pairwise_cons.1 hB
   by_cases hab:a=b
   ·subst hab
    have:=ih A hA'.2 hB'.2 (fun x hx=>by
     rcases List.mem_cons.1 (hs x (List.mem_cons_of_mem _ hx)) with h|h
     ·have:=hA'.1 x hx;omega
     ·exact h)
    simp;omega
   ·have haB:a∈B:=by
     exact Zt
    have hba:=hB'.1 a haB
    have:=ih (a::A) hA hB'.2 (fun x hx=>by
     rcases List.mem_cons.1 (hs x hx) with h|h
     ·exact Zz
     ·exact h)
    simp at this ⊢;omega
theorem Q7:∀(B A:List Int),A.Pairwise (· < ·)→B.Pairwise (· < ·)→(∀x∈A,x∈B)→B.length≤A.length→A=B:=by
 intro B;induction B with
 |nil=>
  intro A _ _ hs _
  cases A with
  |nil=>rfl
  |cons a A=>exact absurd (hs a (by simp)) (by simp)
 |cons b B ih=>
  intro A hA hB hs hl
  cases A with
  |nil=>simp at hl
  |cons a A=>
   have hA':=List.pairwise_cons.1 hA
   have hB':=List.pairwise_cons.1 hB
   by_cases hab:a=b
   ·subst hab
    rw [ih A hA'.2 hB'.2 (fun x hx=>by
     rcases List.mem_cons.1 (hs x (List.mem_cons_of_mem _ hx)) with h|h
     ·have:=hA'.1 x hx;omega
     ·exact h) (by simpa using hl)]
   ·have haB:a∈B:=by
     exact Zt
    have hba:=hB'.1 a haB
    have:=JR B (a::A) hA hB'.2 (fun x hx=>by
     rcases List.mem_cons.1 (hs x hx) with h|h
     ·exact Zz
     ·exact h)
    simp at this hl;omega
def iM (n:Nd):List Int:=n.kids++(if n.par= -1 then[] else[n.par])
def Dt (l:List Int):List Int:=l.mergeSort fun x y=>decide (x≤y)
theorem kQ (l:List Int):(Dt l).length=l.length:=List.length_mergeSort l
theorem wm (l:List Int) (x:Int):x∈Dt l↔x∈l:=(List.mergeSort_perm l _).mem_iff
theorem Fg {l:List Int} (h:l.Nodup):(Dt l).Pairwise (· < ·):=by
 have h1:(Dt l).Pairwise (fun x y=>decide (x≤y)=true):=List.pairwise_mergeSort (le:=fun x y:Int=>decide (x≤y)) (fun a b c h1 h2=>by simp at *;omega) (fun a b=>by simp;omega) l;have h2:(Dt l).Nodup:=(List.mergeSort_perm l _).symm.nodup h;exact(h1.and h2).imp (fun {a b} h=>by have:=of_decide_eq_true h.1;have:=h.2;omega)
theorem uW (l:List Int) (x:Int):hasB l x=true↔x∈l:=by
 unfold hasB;rw [List.any_eq_true];constructor
 ·rintro⟨y,hy,h⟩;have:=of_decide_eq_true h;subst this;exact hy
 ·intro h;exact⟨x,h,by simp⟩
theorem kH (a b c:Int) (h1:gJ a b=true) (h2:gJ b c=true):gJ a c=true:=by
 unfold gJ at *;simp at *;omega
theorem kJ {n:Nd} (h:bQ n=true):(∀x∈n.kids,iE n.id n.par x=true)∧n.kids.Pairwise (· < ·)∧ -1≤n.par:=by
 unfold bQ at h;simp only[Bool.and_eq_true] at h;obtain⟨h1,h2⟩:=(oN (r:=gJ) kH).1 h.2;exact⟨h1,h2.imp (fun {a b} h=>of_decide_eq_true h),(of_decide_eq_true h.1.1.1.2).1⟩
theorem tY {n:Nd} (h:bQ n=true):(iM n).Nodup:=by
 obtain⟨h1,h2,_⟩:=kJ h;have h3:n.kids.Nodup:=h2.imp (fun {a b} h=>by omega);unfold iM;split
 ·simpa using h3
 ·rw [List.nodup_append];refine⟨h3,by simp,?_⟩;intro a ha b hb;have hb':b=n.par:=by simpa using hb
  have:=h1 a ha;unfold iE at this;simp only[Bool.and_eq_true,decide_eq_true_eq] at this;rw [hb'];exact this.2
theorem qR {n:Nd} (h:bQ n=true) (x:Int):dB n x=true↔x∈iM n:=by
 obtain⟨h1,_,h3⟩:=kJ h;unfold dB iM;rw [Bool.or_eq_true,uW,List.mem_append];constructor
 ·rintro(h|h)
  ·simp only[Bool.and_eq_true,decide_eq_true_eq] at h;right
   rw [if_neg (by omega)];simp[h.2]
  ·exact .inl h
 ·rintro(h|h)
  ·exact .inr h
  ·left
   split at h
   ·simp at h
   ·have:x=n.par:=by simpa using h
    exact QU
theorem qQ {n:Nd} (h:bQ n=true):((iM n).length:Int)=n.kids.length+(if 0≤n.par then 1 else 0):=by
 obtain⟨_,_,h3⟩:=kJ h;unfold iM;by_cases hp:n.par= -1
 ·rw [if_pos hp,if_neg (by omega)];simp
 ·rw [if_neg hp,if_pos (by omega)];simp
theorem pW {n:Nd} (hp:bQ n=true):lC n=(decide (n.seen.map (·.f)=Dt (iM n))&&n.seen.all qz):=by
 have hnd:=tY hp;have hsr:=Fg hnd;unfold lC;rw [Vp,←qQ hp,←Bool.and_assoc];congr 1
 rw [Bool.eq_iff_iff,Bool.and_eq_true,decide_eq_true_iff,decide_eq_true_iff,oN (fun a b c h1 h2=>kH a.f b.f c.f h1 h2)];constructor
 ·rintro⟨h1,h2,h3⟩;refine Q7 _ _ ?_ hsr ?_ ?_
  ·rw [List.pairwise_map];exact h3.imp (fun {a b} h=>of_decide_eq_true h)
  ·intro x hx;obtain⟨s,hs,rfl⟩:=List.mem_map.1 hx;rw [wm];exact(qR hp _).1 (h2 s hs)
  ·rw [kQ,List.length_map];omega
 ·intro h;refine⟨?_,?_,?_⟩
  ·have:=congrArg List.length h;rw [kQ,List.length_map] at this;omega
  ·intro s hs;rw [qR hp,←wm,←h];exact List.mem_map.2 ⟨s,hs,rfl⟩
  ·rw [←h,List.pairwise_map] at hsr;exact hsr.imp (fun {a b} h=>decide_eq_true h)
end Mth
namespace Mth
abbrev Ez (a b:Pu):Prop:=a.k.toList < b.k.toList
theorem mH (a b:ByteArray):Op.bytesLess a.toList b.toList=true↔a.toList < b.toList:=by
 rw [bytesLess_eq,decide_eq_true_iff]
theorem kU (a b:ByteArray):sle a b=false↔b.toList < a.toList:=by
 unfold sle;rw [bytesLess_eq,Bool.or_eq_false_iff,decide_eq_false_iff_not,beq_eq_false_iff_ne];constructor
 ·rintro⟨h1,h2⟩;rcases List.le_iff_lt_or_eq.1 (List.not_lt.1 h1) with h|h
  ·exact h
  ·exact absurd h.symm h2
 ·intro h;exact⟨List.lt_asymm h,fun e=>by rw [e] at h;exact List.lt_irrefl _ h⟩
theorem xD {R:Pu→Pu→Prop} (tr:∀a b c,R a b→R b c→R a c):∀(l:List Pu),(∀i (h:i+1 < l.length),R l[i] l[i+1])→l.Pairwise R:=by
 intro l;induction l with
 |nil=>intro _;exact List.Pairwise.nil
 |cons x r ih=>
  intro h
  have hr:r.Pairwise R:=ih fun i hi=>h (i+1) (by simpa using hi)
  refine List.Pairwise.cons ?_ hr
  intro y hy
  cases r with
  |nil=>simp at hy
  |cons z s=>
   have hxz:R x z:=h 0 (by simp)
   rcases List.mem_cons.1 hy with rfl|hy
   ·exact hxz
   ·exact tr _ _ _ hxz ((List.pairwise_cons.1 hr).1 y hy)
theorem iU (l:List Pu):ig l=true↔(∀p∈l,fH p=true)∧l.Pairwise Ez∧l.length≤20:=by
 unfold ig;rw [Bool.and_eq_true,List.all_eq_true,decide_eq_true_iff];constructor
 ·rintro⟨h,h20⟩;refine⟨?_,?_,h20⟩
  ·intro p hp;obtain⟨i,hi,rfl⟩:=List.mem_iff_getElem.1 hp;have h1:=h i (List.mem_range.2 hi);unfold jc at h1;rw [Bool.and_eq_true] at h1;simpa [List.getD,hi] using h1.1
  ·refine xD (fun a b c (h1:Ez a b) (h2:Ez b c)=>(List.lt_trans h1 h2:Ez a c)) l fun i hi=>?_
   have h1:=h (i+1) (List.mem_range.2 hi);unfold jc at h1;rw [Bool.and_eq_true] at h1;have h2:=h1.2;have hi0:i < l.length:=by omega
   simp[List.getD,hi,hi0] at h2;exact(kU _ _).1 h2
 ·rintro⟨h,hp,h20⟩;refine⟨?_,h20⟩;intro i hi;have hi':=List.mem_range.1 hi;unfold jc;rw [Bool.and_eq_true];refine⟨by simpa [List.getD,hi'] using h l[i] (List.getElem_mem hi'),?_⟩;cases i with
  |zero=>rfl
  |succ i=>
   have hi0:i < l.length:=by omega
   have h2:=(kU l[i+1].k l[i].k).2 (List.pairwise_iff_getElem.1 hp i (i+1) hi0 hi' (by omega))
   simp[List.getD,hi',hi0,h2]
def nV (l:List Pu) (k:ByteArray):List Pu:=l.takeWhile fun q=>Op.bytesLess q.k.toList k.toList
def jq (l:List Pu) (k:ByteArray):List Pu:=l.dropWhile fun q=>Op.bytesLess q.k.toList k.toList
def jf (l:List Pu) (k:ByteArray):List Pu:=match jq l k with
 |[]=>[]
 |q::r=>if q.k.toList == k.toList then r else q::r
def gV (l:List Pu) (p:Pu):List Pu:=nV l p.k++p::jf l p.k
theorem rG (l:List Pu) (k:ByteArray):nV l k++jq l k=l:=List.takeWhile_append_dropWhile
theorem Cn (f:Pu→Bool):∀(l:List Pu) (q:Pu),q∈l.takeWhile f→f q=true:=by
 intro l;induction l with
 |nil=>intro q hq;simp at hq
 |cons x r ih=>
  intro q hq
  rw [List.takeWhile_cons] at hq
  split at hq
  ·rename_i hx
   rcases List.mem_cons.1 hq with rfl|hq
   ·exact hx
   ·exact ih q hq
  ·simp at hq
theorem uY {l:List Pu} {k:ByteArray} {q:Pu} (h:q∈nV l k):q.k.toList < k.toList:=(mH _ _).1 (Cn _ l q h)
theorem Av (l:List Pu) (k:ByteArray):∀q∈jf l k,q∈jq l k:=by
 intro q hq;unfold jf at hq;split at hq
 ·simp at hq
 ·rename_i x r e
  rw [e];split at hq
  ·exact List.mem_cons_of_mem _ hq
  ·exact hq
theorem wV (l:List Pu) (k:ByteArray) (q:Pu) (r:List Pu) (h:jq l k=q::r):¬q.k.toList < k.toList:=by
 unfold jq at h;have h2:=List.head?_dropWhile_not (fun q:Pu=>Op.bytesLess q.k.toList k.toList) l;rw [h] at h2;simp at h2;intro h3;rw [(mH _ _).2 h3] at h2;cases h2
theorem Fh {l:List Pu} {k:ByteArray} (hp:l.Pairwise Ez):∀q∈jf l k,k.toList < q.k.toList:=by
 have hp2:(jq l k).Pairwise Ez:=hp.sublist (List.dropWhile_sublist _);unfold jf;cases hf:jq l k with
 |nil=>intro q hq;simp at hq
 |cons x r=>
  have hx:=wV l k x r hf
  rw [hf] at hp2
  have hr:=(List.pairwise_cons.1 hp2).1
  dsimp only
  by_cases he:x.k.toList=k.toList
  ·rw [if_pos (by simpa using he)];intro q hq;have:=hr q hq;unfold Ez at this;rw [he] at this;exact this
  ·rw [if_neg (by simpa using he)]
   have hkx:k.toList < x.k.toList:=by
    rcases List.le_iff_lt_or_eq.1 (List.not_lt.1 hx) with h|h
    ·exact h
    ·exact absurd h.symm he
   intro q hq;rcases List.mem_cons.1 hq with rfl|hq
   ·exact hkx
   ·exact List.lt_trans hkx (hr q hq)
theorem Cm {l:List Pu} {k:ByteArray} (hp:l.Pairwise Ez):(jf l k).Pairwise Ez:=by
 have hp2:(jq l k).Pairwise Ez:=hp.sublist (List.dropWhile_sublist _);unfold jf;cases hf:jq l k with
 |nil=>exact List.Pairwise.nil
 |cons x r=>
  rw [hf] at hp2
  dsimp only
  split
  ·exact(List.pairwise_cons.1 hp2).2
  ·exact hp2
theorem Tf {l:List Pu} (p:Pu) (h:ig l=true):ig (gV l p)=(fH p&&decide ((gV l p).length≤20)):=by
 obtain⟨h1,h2,h3⟩:=(iU l).1 h;apply Bool.eq_iff_iff.2
 rw [iU,Bool.and_eq_true,decide_eq_true_iff];constructor
 ·rintro⟨g1,_,g3⟩;exact⟨g1 p (by unfold gV;simp),g3⟩
 ·rintro⟨g1,g3⟩;refine⟨?_,?_,g3⟩
  ·intro q hq;unfold gV at hq;rcases List.mem_append.1 hq with hq|hq
   ·exact h1 q ((List.takeWhile_sublist _).mem hq)
   ·rcases List.mem_cons.1 hq with rfl|hq
    ·exact g1
    ·exact h1 q ((List.dropWhile_sublist _).mem (Av l p.k q hq))
  ·unfold gV;rw [List.pairwise_append];refine⟨h2.sublist (List.takeWhile_sublist _),List.pairwise_cons.2 ⟨fun q hq=>Fh h2 q hq,Cm h2⟩,?_⟩;intro q hq q' hq';rcases List.mem_cons.1 hq' with rfl|hq'
   ·exact uY hq
   ·exact List.lt_trans (uY hq) (Fh h2 q' hq')
def nJ (l:List Pu) (p:Pu) (n:Int):List Pu×Bool:=
 if ig l&&decide (1≤n∧n≤1000000000)&&ig (gV l p) then(gV l p,true) else(l,false)
end Mth
namespace Fo
open Go.RowKit
theorem two_blocks {w w1:World} {A B:Obj} (hb:Below ((w.alloc A).alloc B).heap.size ((w.alloc A).alloc B) w1):
 w1.heap[w.heap.size]?=some A∧w1.heap[w.heap.size+1]?=some B∧w.heap.size+1 < w1.heap.size∧Below w.heap.size w w1:=by
 have hs:((w.alloc A).alloc B).heap.size=w.heap.size+1+1:=by simp
 have hz:=hb.size;refine⟨?_,?_,by omega,(((Below.refl _ _).alloc (Nat.le_refl _) _).alloc (by simp) _).trans (hb.mono (by omega))⟩
 ·rw [hb.block _ (by omega),Below.heap_alloc _ _ _ (by simp)];exact heap_alloc_new w A
 ·rw [hb.block _ (by omega)];have h:=heap_alloc_new (w.alloc A) B;rwa [show(w.alloc A).heap.size=w.heap.size+1 by simp] at h
theorem one_block {w w1:World} {A:Obj} (hb:Below (w.alloc A).heap.size (w.alloc A) w1):
 w1.heap[w.heap.size]?=some A∧w.heap.size < w1.heap.size∧Below w.heap.size w w1:=by
 have hs:(w.alloc A).heap.size=w.heap.size+1:=by simp
 have hz:=hb.size;refine⟨?_,by omega,((Below.refl _ _).alloc (Nat.le_refl _) _).trans (hb.mono (by omega))⟩;rw [hb.block _ (by omega)];exact heap_alloc_new w A
theorem blk_set {w:World} {c:Nat} {cs:Array Value} {t:TypeId} (h:w.heap[c]?=some (.cells cs t (0,0))) (i:Nat) (v:Value):(w.setCell ⟨c,i,none⟩ v).heap[c]?=some (.cells (cs.setIfInBounds i v) t (0,0)):=by
 exact abb
theorem four_set {w:World} {g:Nat} {a0 a1 a2 a3 b0 b1 b2 b3:Value} {t:TypeId} (h:w.heap[g]?=some (.cells #[a0,a1,a2,a3] t (0,0))):
 ((((w.setCell ⟨g,0,none⟩ b0).setCell ⟨g,1,none⟩ b1).setCell ⟨g,2,none⟩ b2).setCell ⟨g,3,none⟩ b3).heap[g]?=some (.cells #[b0,b1,b2,b3] t (0,0)):=
 blk_set (blk_set (blk_set (blk_set h 0 b0) 1 b1) 2 b2) 3 b3
theorem four_below {a w:World} {B g:Nat} {b0 b1 b2 b3:Value} (h:Below B a w) (hg:B≤g):
 Below B a ((((w.setCell ⟨g,0,none⟩ b0).setCell ⟨g,1,none⟩ b1).setCell ⟨g,2,none⟩ b2).setCell ⟨g,3,none⟩ b3):=
 (((h.setCell (p:=⟨g,0,none⟩) hg b0).setCell (p:=⟨g,1,none⟩) hg b1).setCell (p:=⟨g,2,none⟩) hg b2).setCell (p:=⟨g,3,none⟩) hg b3
theorem one_other {w:World} {g g' i:Nat} {v:Value} {o:Option Obj} (h:w.heap[g']?=o) (hne:g'≠g):(w.setCell ⟨g,i,none⟩ v).heap[g']?=o:=by
 rw [Below.heap_setCell _ _ _ _ hne,h]
theorem bodyPost_at {P:Program} {fn:Func} {Q:Ending→World→Prop} {x:Exit} {act:Act} {W:World} (h:∀W',W'=W→bodyPost P fn Q x act W'):bodyPost P fn Q x act W:=h W rfl
theorem wp_at {P:Program} {c:Code} {Q:Exit→Act→World→Prop} {a:Act} {W:World} (h:∀W',W'=W→Code.wp P c Q a W'):Code.wp P c Q a W:=h W rfl
theorem lt_of_blk {w:World} {g:Nat} {o:Obj} (h:w.heap[g]?=some o):g < w.heap.size:=by
 exact aa6
theorem setCell_size (w:World) (p:Addr) (v:Value):(w.setCell p v).heap.size=w.heap.size:=by
 unfold World.setCell;simp
end Fo
def fE (w:World) (g:Nat) (xs:List ByteArray):Prop:=w.heap[g]?=some (.cells (xs.map Value.string).toArray 9 (0,0))
theorem fE.cell {w:World} {g:Nat} {xs:List ByteArray} (h:fE w g xs) (i:Nat) (hi:i < xs.length):w.cell? ⟨g,i,none⟩=some (.string xs[i]):=by
 rw [cell_of_row w g i _ 9 (0,0) h];simp[hi]
theorem fE.free {w:World} {g:Nat} {xs:List ByteArray} (h:fE w g xs) (i:Nat):w.frozen? ⟨g,i,none⟩=false:=by
 unfold World.frozen?;rw [h];simp
theorem fE.lt {w:World} {g:Nat} {xs:List ByteArray} (h:fE w g xs):g < w.heap.size:=by
 rcases Nat.lt_or_ge g w.heap.size with h'|h'
 ·exact h'
 ·rw [fE,Array.getElem?_eq_none h'] at h;cases h
theorem fE.below {w w':World} {g B:Nat} {xs:List ByteArray} (h:fE w g xs) (hb:Below B w w') (hg:g < B):fE w' g xs:=by
 unfold fE;rw [hb.block g hg];exact h
theorem fE.set {w:World} {g:Nat} {xs:List ByteArray} (h:fE w g xs) (i:Nat) (t:ByteArray):fE (w.setCell ⟨g,i,none⟩ (.string t)) g (xs.set i t):=by
 unfold fE World.setCell;simp only[Array.getElem?_modify];rw [if_pos trivial,h];simp
structure Keeps (g:Nat) (w w':World):Prop where
 os:w'.os=w.os
 tape:w'.tape=w.tape
 output:w'.output=w.output
 size:w.heap.size≤w'.heap.size
 block:∀k,k < w.heap.size→k≠g→w'.heap[k]?=w.heap[k]?
theorem Keeps.refl (g:Nat) (w:World):Keeps g w w:=⟨rfl,rfl,rfl,Nat.le_refl _,fun _ _ _=>rfl⟩
theorem Keeps.trans {g:Nat} {a b c:World} (h:Keeps g a b) (k:Keeps g b c):Keeps g a c:=
 ⟨k.os.trans h.os,k.tape.trans h.tape,k.output.trans h.output,Nat.le_trans h.size k.size,fun i hi hg=>(k.block i (Nat.lt_of_lt_of_le hi h.size) hg).trans (h.block i hi hg)⟩
theorem Keeps.of_below {g:Nat} {w w':World} (h:Below w.heap.size w w'):Keeps g w w':=⟨h.os,h.tape,h.output,h.size,fun k hk _=>h.block k hk⟩
theorem Keeps.set {g i:Nat} {w:World} (v:Value):Keeps g w (w.setCell ⟨g,i,none⟩ v):=
 ⟨rfl,rfl,rfl,by simp[World.setCell],fun k _ hg=>Below.heap_setCell _ _ _ _ hg⟩
theorem Keeps.below {g B:Nat} {w w':World} (h:Keeps g w w') (hB:B≤g) (hs:B≤w.heap.size):Below B w w':=⟨h.os,h.tape,h.output,h.size,fun k hk=>h.block k (by omega) (by omega)⟩
theorem fE.keeps {w w':World} {g g':Nat} {xs:List ByteArray} (h:fE w g' xs) (hk:Keeps g w w') (hne:g'≠g):fE w' g' xs:=by
 unfold fE;rw [hk.block g' h.lt hne];exact h
open Go.RowKit Go.Maps
namespace Mth
def nothing (p:Pu):Bool:=p.m == 0&&p.f == 0&&p.s == 0
theorem Iq (p:Pu):nothing p=true↔p.m=0∧p.f=0∧p.s=0:=by unfold nothing;simp[and_assoc]
def upd (G:ByteArray→Pu) (p:Pu):ByteArray→Pu:=fun k=>if k=p.k then p else G k
end Mth
def EF:Value→Option (DataW Unit×List MemPlace)
 | .agg ⟨[.string k,.int .i64 m,.int .i64 f,.int .i64 s]⟩=>some (.agg [.lit (.string k.data.toList),.lit (.int .i64 m),.lit (.int .i64 f),.lit (.int .i64 s)],[])
 |_=>none
def vT (p:Pu):DataW Unit:= .agg [.lit (.string p.k.data.toList),.lit (.int .i64 p.m),.lit (.int .i64 p.f),.lit (.int .i64 p.s)]
theorem Dk (p:Pu):EF (wI p)=some (vT p,[]):=rfl
theorem Ae {v:Value} {p:Pu} {ps:List MemPlace} (h:EF v=some (vT p,ps)):v=wI p:=by
 unfold EF at h;split at h
 ·rename_i k m f s
  obtain⟨pk,pm,pf,ps⟩:=p;simp only[vT,Option.some.injEq,Prod.mk.injEq,DataW.agg.injEq,List.cons.injEq,DataW.lit.injEq,Lit.string.injEq,Lit.int.injEq,true_and,and_true] at h;obtain⟨⟨h1,h2,h3,h4⟩,_⟩:=h;subst h2 h3 h4;have e:k=pk:=ByteArray.ext (Array.toList_inj.1 h1);rw [e]
 ·cases h
abbrev klit (k:ByteArray):Lit:= .string k.data.toList
theorem yP {a b:ByteArray} (h:a≠b):klit a≠klit b:=fun e=>h (by
 injection e with e
 exact ByteArray.ext (Array.toList_inj.1 e))
theorem Kl:Keyed Tryz.prog 9:=string_keyed Tryz.underlying9
theorem Sm (s:ByteArray) (hs:s.size≤maxLen):keyOf Tryz.prog 9 (.string s)=some (klit s):=Go.WideMaps.keyOf_string_mk Tryz.underlying9 hs
theorem ab6 (w:World):(zeroValue 143).run Tryz.prog w= .ok (wI ⟨ByteArray.empty,0,0,0⟩) w:=by kernel_rfl
def TP (D:DataW Unit) (G:ByteArray→Pu):Prop:=∀k,(G k).k=k∧Maps.has D (klit k)= !nothing (G k)∧(nothing (G k)=false→∀z,D.atKey (klit k) z=vT (G k))
def gH (w:World) (mb n:Nat) (G:ByteArray→Pu):Prop:=∃D,w.ownsMap Tryz.prog 9 EF mb n D∧TP D G
theorem TP.empty:TP (.map []) (fun k=>⟨k,0,0,0⟩):=fun k=>⟨rfl,rfl,fun h=>by cases h⟩
theorem TP.put {D:DataW Unit} {G:ByteArray→Pu} (h:TP D G) (hD:Maps.IsMap D) (p:Pu) (hp:nothing p=false):TP (D.put (klit p.k) (vT p)) (upd G p):=by
 intro k;unfold upd;by_cases e:k=p.k
 ·rw [if_pos e,e];exact⟨rfl,by rw [has_put_same hD (show WideAt.IsKeyLit (klit p.k) from trivial),hp];rfl,fun _ z=>atKey_put_same hD (show WideAt.IsKeyLit (klit p.k) from trivial) _ z⟩
 ·rw [if_neg e];obtain⟨h1,h2,h3⟩:=h k;exact⟨h1,by rw [has_put_other (yP e),h2],fun hn z=>by rw [atKey_put_other (yP e)];exact h3 hn z⟩
theorem TP.del {D:DataW Unit} {G:ByteArray→Pu} (h:TP D G) (p:Pu) (hp:nothing p=true):TP (D.del (klit p.k)) (upd G p):=by
 intro k;unfold upd;by_cases e:k=p.k
 ·rw [if_pos e,e];exact⟨rfl,by rw [has_del_same,hp];rfl,fun hn=>by rw [hp] at hn;cases hn⟩
 ·rw [if_neg e];obtain⟨h1,h2,h3⟩:=h k;exact⟨h1,by rw [has_del_other (yP e),h2],fun hn z=>by rw [atKey_del_other (yP e)];exact h3 hn z⟩
theorem gH.made (w:World):gH (w.alloc (.map #[] 0)) w.heap.size 0 (fun k=>⟨k,0,0,0⟩):=⟨_,World.ownsMap_made w _ _ _,TP.empty⟩
theorem gH.lt {w:World} {mb n:Nat} {G:ByteArray→Pu} (h:gH w mb n G):mb < w.heap.size:=h.choose_spec.1.lt
theorem gH.kept {w w':World} {mb n:Nat} {G:ByteArray→Pu} (h:gH w mb n G) (hb:w'.heap[mb]?=w.heap[mb]?):gH w' mb n G:=by
 exact ZH
theorem gH.look {w:World} {mb n:Nat} {G:ByteArray→Pu} (h:gH w mb n G) (k:ByteArray) (hk:k.size≤maxLen):
 (Instr.lookup 304 (.map (some mb)) (.string k) true).run Tryz.prog w= .ok (.tuple #[wI (if nothing (G k) then⟨ByteArray.empty,0,0,0⟩ else G k),.bool (!nothing (G k))]) w:=by
 obtain⟨D,hown,ha⟩:=h;obtain⟨v,ps,hrun,hv⟩:=hown.look_ok Kl Tryz.underlying304 (ab6 w) (Dk _) (Sm k hk);obtain⟨_,h2,h3⟩:=ha k;rw [hrun,h2];cases hn:nothing (G k)
 ·rw [h3 hn] at hv;rw [Ae hv];rfl
 ·rw [hn] at h2;rw [atKey_of_not_has h2] at hv;rw [Ae hv];rfl
theorem lF {w w':World} {b:Nat} (h:w.mapTurned w' b):_root_.Go.Proofs.YtacgbldlonoaaaaGreatDoor.Keeps b w w':=by
 have g:=h.grown;exact⟨g.os,g.tape,g.output,g.size,fun k hk hne=>g.block k hk (fun e=>hne (Option.some.inj e))⟩
theorem gH.store {w:World} {mb n:Nat} {G:ByteArray→Pu} (h:gH w mb n G) (p:Pu) (hk:p.k.size≤maxLen) (hn:n < maxLen) (hp:nothing p=false):
 ∃w',(Instr.mapUpdate 304 (.map (some mb)) (.string p.k) (wI p)).run Tryz.prog w= .ok () w'∧gH w' mb (n+1) (upd G p)∧Keeps mb w w':=by
 obtain⟨D,hown,ha⟩:=h;obtain⟨w',hrun,h1,h2⟩:=hown.store Kl Tryz.underlying304 hn (Sm p.k hk) (Dk p);exact⟨w',hrun,⟨_,h1,ha.put hown.isMap p hp⟩,lF h2⟩
theorem gH.drop {w:World} {mb n:Nat} {G:ByteArray→Pu} (h:gH w mb n G) (p:Pu) (hk:p.k.size≤maxLen) (hp:nothing p=true) (ty:TypeId):
 ∃w',(Builtin.delete_ #[304,9] ty #[.map (some mb),.string p.k]).run Tryz.prog w= .ok (.tuple #[]) w'∧gH w' mb n (upd G p)∧Keeps mb w w':=by
 obtain⟨D,hown,ha⟩:=h;obtain⟨w',hrun,h1,h2⟩:=hown.drop Kl Tryz.underlying304 (Sm p.k hk) ty;exact⟨w',hrun,⟨_,h1,ha.del p hp⟩,lF h2⟩
end Go.Proofs.YtacgbldlonoaaaaGreatDoor
