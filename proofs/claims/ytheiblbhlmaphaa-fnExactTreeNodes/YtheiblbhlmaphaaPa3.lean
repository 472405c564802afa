/-
  NdAt, NdHas, NdMath2, PuPut, Clone, PuI, Fours, PuI3.
-/
import Derived.Test.YtheiblbhlmaphaaPa2
import Derived.Test.YtheiblbhlmaphaaPaZ2
import Derived.Test.YtheiblbhlmaphaaPa1
import Derived.Sort.Walk0
import Derived.Lib.Strings
import Derived.Lib.BufferWrite
import Derived.Lib.UnsafeStr
import Derived.Laws.MakeOwn
import Derived.Laws.CopyOwn
import Derived.Deep.RegionHeld
import Derived.Deep.DeepCutAuto
import Derived.Lib.QuietBelow
import Derived.BigQuiet
import Derived.Laws.Cover1
namespace Go.Proofs.Ytheiblbhlmaphaa
open Go.RowKit
open Mth
def SeenAt (w:World) (a:Option Addr) (l:List Sn):Prop:=∀i (hi:i < l.length),∃g off b c,a=some ⟨g,off,none⟩∧g < w.heap.size∧w.cell? ⟨g,off+i*3,none⟩=some (.int .i64 l[i].f)∧w.cell? ⟨g,off+i*3+1,none⟩=some (.int .i64 l[i].l)∧w.cell? ⟨g,off+i*3+2,none⟩=some (.slice b l[i].ids.length c)∧IntsAt w b l[i].ids
theorem SeenAt.below {w w':World} {a:Option Addr} {l:List Sn} (h:SeenAt w a l) (hb:Below w.heap.size w w'):SeenAt w' a l:=fun i hi=>by
 obtain⟨g,off,b,c,e,hg,h0,h1,h2,h3⟩:=h i hi;exact⟨g,off,b,c,e,Nat.lt_of_lt_of_le hg hb.size,(hb.cell (p:=⟨g,off+i*3,none⟩) hg).trans h0,(hb.cell (p:=⟨g,off+i*3+1,none⟩) hg).trans h1,(hb.cell (p:=⟨g,off+i*3+2,none⟩) hg).trans h2,GR.At.below h3 hb⟩
theorem seenAt_nil {w:World} {a:Option Addr}:SeenAt w a []:=fun i hi=>by simp at hi
structure Ads where
 k:Option Addr
 p:Option Addr
 o:Option Addr
 s:Option Addr
 r:Option Addr
 ck:Nat
 cp:Nat
 co:Nat
 cs:Nat
 cr:Nat
abbrev ndc (n:Nd) (A:Ads):Array Value:=#[.int .i64 n.id,.int .i64 n.par,.slice A.k n.kids.length A.ck,.int .i64 n.next,.slice A.p n.pu.length A.cp,.slice A.o n.out.length A.co,.slice A.s n.seen.length A.cs,.int .i64 n.old,.slice A.r n.reqs.length A.cr]
abbrev ndv (n:Nd) (A:Ads):Value:= .agg (ndc n A)
structure NodeAt (w:World) (A:Ads) (n:Nd):Prop where
 k:IntsAt w A.k n.kids
 p:PursesAt w A.p n.pu
 o:SentAt w A.o n.out
 s:SeenAt w A.s n.seen
 r:ReqAt w A.r n.reqs
theorem NodeAt.below {w w':World} {A:Ads} {n:Nd} (h:NodeAt w A n) (hb:Below w.heap.size w w'):NodeAt w' A n:=
 ⟨GR.At.below h.k hb,GR.At.below h.p hb,GR.At.below h.o hb,h.s.below hb,GR.At.below h.r hb⟩
structure NdSz (n:Nd) (b:Nat):Prop where
 k:n.kids.length≤b
 p:n.pu.length≤b
 o:n.out.length≤b
 s:n.seen.length≤b
 r:n.reqs.length≤b
 pk:∀x∈n.pu,x.k.size≤b
 ok:∀x∈n.out,x.k.size≤b
 sk:∀x∈n.seen,x.ids.length≤b
 rk:∀x∈n.reqs,x.k.size≤b
theorem NdSz.mono {n:Nd} {a b:Nat} (h:NdSz n a) (hab:a≤b):NdSz n b:=
 ⟨Nat.le_trans h.k hab,Nat.le_trans h.p hab,Nat.le_trans h.o hab,Nat.le_trans h.s hab,Nat.le_trans h.r hab,fun x hx=>Nat.le_trans (h.pk x hx) hab,fun x hx=>Nat.le_trans (h.ok x hx) hab,fun x hx=>Nat.le_trans (h.sk x hx) hab,fun x hx=>Nat.le_trans (h.rk x hx) hab⟩
abbrev ndBlk (w:World) (g:Nat) (n:Nd) (A:Ads):Prop:=w.heap[g]?=some (.cells (ndc n A) 42 (0,0))
theorem obj_step {w w':World} {g:Nat} {o:Obj} (h:w.heap[g]?=some o) (hb:Below w.heap.size w w'):w'.heap[g]?=some o:=by
 rw [hb.block g (obj_lt h)];exact h
theorem nine {w:World} {g:Nat} {v0 v1 v2 v3 v4 v5 v6 v7 v8:Value} {t:TypeId} (h:w.heap[g]?=some (.cells #[v0,v1,v2,v3,v4,v5,v6,v7,v8] t (0,0))):
 w.cell? ⟨g,0,none⟩=some v0∧w.cell? ⟨g,1,none⟩=some v1∧w.cell? ⟨g,2,none⟩=some v2∧w.cell? ⟨g,3,none⟩=some v3∧w.cell? ⟨g,4,none⟩=some v4∧w.cell? ⟨g,5,none⟩=some v5∧w.cell? ⟨g,6,none⟩=some v6∧w.cell? ⟨g,7,none⟩=some v7∧w.cell? ⟨g,8,none⟩=some v8:=by
 have hc:∀i,w.cell? ⟨g,i,none⟩=#[v0,v1,v2,v3,v4,v5,v6,v7,v8][i]?:=fun i=>cell_of_row w g i _ t (0,0) h
 exact⟨hc 0,hc 1,hc 2,hc 3,hc 4,hc 5,hc 6,hc 7,hc 8⟩
theorem obj_free {w:World} {g:Nat} {cs:Array Value} {t:TypeId} (h:w.heap[g]?=some (.cells cs t (0,0))) (i:Nat):w.frozen? ⟨g,i,none⟩=false:=by
 unfold World.frozen?;rw [h];simp
theorem drewN_below (w:World) (n:Nat):Below w.heap.size w (w.drewN n):=⟨rfl,rfl,rfl,Nat.le_refl _,fun _ _=>rfl⟩
set_option maxHeartbeats 1000000
set_option maxRecDepth 100000
theorem Mth.has_snoc (l:List Int) (x:Int) (k:Nat) (h:k < l.length):hasB (l.take (k+1)) x=(hasB (l.take k) x||decide (l[k]=x)):=by
 unfold hasB;rw [List.take_succ_eq_append_getElem h,List.any_append];simp
theorem Mth.has_yes (l:List Int) (x:Int) (k:Nat) (h:k < l.length) (hx:l[k]=x):hasB l x=true:=by
 unfold hasB;rw [List.any_eq_true];exact⟨l[k],List.getElem_mem h,by simp[hx]⟩
theorem specHas (a:Option Addr) (cap:Nat) (l:List Int) (x:Int) (w:World) (hl:l.length≤1048600) (ha:IntsAt w a l):
 Calls Try.prog 44 #[.slice a l.length cap,.int .i64 x] w fun e w'=>e= .returned (.bool (hasB l x))∧w=w':=by
 have HA:=hide ha;clear ha;go_enter Try.func44,Try.ntmps44
 go_wp2_with fail;go_loop [5] (fun i=>∃k:Nat,k≤l.length∧i= .int .i64 k∧hasB (l.take k) x=false) (fun i=>l.length - (intOf i).toNat)
 case atStart=>exact⟨0,Nat.zero_le _,rfl,rfl⟩
 case round=>
  obtain⟨k,hk,rfl,hno⟩:=hrel;have HN:=hide hno;clear hno;by_cases hlt:k < l.length
  ·obtain⟨g,off,rfl,hgw,q0⟩:=IntsAt.one HA k hlt;by_cases hx:l[k]=x
   ·have HY:=hide (has_yes l x k hlt hx);rw [hx] at q0;clear hx;go_wp2_with fail;go_ret;exact⟨ret_bool HY.symm,rfl⟩
   ·have HS:=hide (has_snoc l x k hlt);rw [decide_eq_false hx] at HS;exact Za20
  ·open Sa16 in exact Ya5
theorem specNear (n:Nd) (A:Ads) (x:Int) (w:World) (hl:n.kids.length≤1048600) (ha:IntsAt w A.k n.kids):
 Calls Try.prog 34 #[ndv n A,.int .i64 x] w fun e w'=>e= .returned (.bool (nearB n x))∧Below w.heap.size w w':=by
 have HH:=hide (specHas A.k A.ck n.kids x (w.alloc (.cells (ndc n A) 42)) hl (GR.At.below ha (below_one w _)));clear ha;by_cases h0:0≤x
 ·by_cases h1:x=n.par
  ·have HN:=hide (show nearB n x=true by unfold nearB;rw [decide_eq_true h0,decide_eq_true h1];rfl);have h2:(x == n.par)=true:=by simp[h1]
   clear h1;go_enter Try.func34,Try.ntmps34
   go_wp2_with fail;exact Za21
  ·have HN:=hide (show nearB n x=hasB n.kids x by simp[nearB,h1]);have h2:(x == n.par)=false:=by simp[h1]
   clear h1;exact Za43
 ·have HN:=hide (show nearB n x=hasB n.kids x by simp[nearB,h0]);exact Za43
namespace Mth
def lastI {α:Type} (key:α→Int) (y0:Int) (l:List α):Int:=(l.getLast?.map key).getD y0
theorem lastI_snoc {α:Type} (key:α→Int) (y0:Int) (l:List α) (k:Nat) (h:k < l.length):lastI key y0 (l.take (k+1))=key l[k]:=by
 unfold lastI;rw [List.take_succ_eq_append_getElem h,List.getLast?_append];simp
theorem chk_last {α:Type} (p:α→Bool) (key:α→Int) (y0:Int) (hp:∀x,p x=true→y0 < key x) (l:List α) (k:Nat) (h:k < l.length):
 chk p (fun s t=>ltB (key s) (key t)) (l.take (k+1))=(chk p (fun s t=>ltB (key s) (key t)) (l.take k)&&(p l[k]&&decide (lastI key y0 (l.take k) < key l[k]))):=by
 rw [List.take_succ_eq_append_getElem h,chk_snoc];unfold lastI;cases hg:(l.take k).getLast? with
 |none=>
  cases hx:p l[k] with
  |false=>simp
  |true=>simp[hp _ hx]
 |some y=>simp[ltB]
theorem chk_mem {α:Type} {p:α→Bool} {r:α→α→Bool} {l:List α} (h:chk p r l=true):∀x∈l,p x=true:=by
 induction l with
 |nil=>intro x hx;simp at hx
 |cons y l ih=>
  rw [chk_cons] at h
  simp only[Bool.and_eq_true] at h
  intro x hx
  rcases List.mem_cons.1 hx with rfl|hx
  ·exact h.1.1
  ·exact ih h.2 x hx
theorem chk_lastI {α:Type} {p:α→Bool} {r:α→α→Bool} {key:α→Int} {y0:Int} {l:List α} (hp:∀x,p x=true→y0 < key x) (h:chk p r l=true):y0≤lastI key y0 l:=by
 unfold lastI;cases hg:l.getLast? with
 |none=>simp
 |some y=>
  have:=hp y (chk_mem h y (List.mem_of_getLast? hg))
  simp
  omega
theorem chk_iff {α:Type} {p:α→Bool} {r:α→α→Bool} (ht:∀a b c,r a b=true→r b c=true→r a c=true) {l:List α}:chk p r l=true↔(∀x∈l,p x=true)∧l.Pairwise (fun a b=>r a b=true):=by
 induction l with
 |nil=>simp[chk]
 |cons x l ih=>
  rw [chk_cons]
  simp only[Bool.and_eq_true,ih,List.pairwise_cons,List.mem_cons,forall_eq_or_imp]
  constructor
  ·rintro⟨⟨h1,h2⟩,h3,h4⟩;refine⟨⟨h1,h3⟩,?_,h4⟩;cases l with
   |nil=>intro a ha;simp at ha
   |cons y l=>
    simp only[List.head?_cons] at h2
    intro a ha
    rcases List.mem_cons.1 ha with rfl|ha
    ·exact h2
    ·exact ht x y a h2 ((List.pairwise_cons.1 h4).1 a ha)
  ·rintro⟨⟨h1,h3⟩,h2,h4⟩;refine⟨⟨h1,?_⟩,h3,h4⟩;cases l with
   |nil=>simp
   |cons y l=>exact h2 y (by simp)
theorem chk_and {α:Type} {p q:α→Bool} {r:α→α→Bool} {l:List α}:chk (fun x=>p x&&q x) r l=(chk p r l&&l.all q):=by
 induction l with
 |nil=>simp[chk]
 |cons x l ih=>
  rw [chk_cons,ih,chk_cons,List.all_cons]
  generalize p x=a
  generalize q x=b
  generalize chk p r l=d
  generalize l.all q=e
  cases a<;>cases b<;>cases d<;>cases e<;>simp
theorem asc_le:∀(B A:List Int),A.Pairwise (· < ·)→B.Pairwise (· < ·)→(∀x∈A,x∈B)→A.length≤B.length:=by
 intro B;induction B with
 |nil=>
  intro A _ _ hs
  cases A with
  |nil=>simp
  |cons a A=>exact absurd (hs a (by simp)) (by simp)
 |cons b B ih=>
  intro A hA hB hs
  cases A with
  |nil=>simp
  |cons a A=>
   have hA':=List.pairwise_cons.1 hA
   have hB':=List.pairwise_cons.1 hB
   by_cases hab:a=b
   ·subst hab
    have:=ih A hA'.2 hB'.2 (fun x hx=>by
     rcases List.mem_cons.1 (hs x (List.mem_cons_of_mem _ hx)) with h|h
     ·have:=hA'.1 x hx;omega
     ·exact h)
    simp;omega
   ·have haB:a∈B:=by
     exact Za38
    have hba:=hB'.1 a haB
    have:=ih (a::A) hA hB'.2 (fun x hx=>by
     rcases List.mem_cons.1 (hs x hx) with h|h
     ·exact Za45
     ·exact h)
    simp at this ⊢;omega
theorem asc_eq:∀(B A:List Int),A.Pairwise (· < ·)→B.Pairwise (· < ·)→(∀x∈A,x∈B)→B.length≤A.length→A=B:=by
 intro B;induction B with
 |nil=>
  intro A _ _ hs _
  cases A with
  |nil=>rfl
  |cons a A=>exact absurd (hs a (by simp)) (by simp)
 |cons b B ih=>
  intro A hA hB hs hl
  cases A with
  |nil=>simp at hl
  |cons a A=>
   have hA':=List.pairwise_cons.1 hA
   have hB':=List.pairwise_cons.1 hB
   by_cases hab:a=b
   ·subst hab
    rw [ih A hA'.2 hB'.2 (fun x hx=>by
     rcases List.mem_cons.1 (hs x (List.mem_cons_of_mem _ hx)) with h|h
     ·have:=hA'.1 x hx;omega
     ·exact h) (by simpa using hl)]
   ·have haB:a∈B:=by
     exact Za38
    have hba:=hB'.1 a haB
    have:=asc_le B (a::A) hA hB'.2 (fun x hx=>by
     rcases List.mem_cons.1 (hs x hx) with h|h
     ·exact Za45
     ·exact h)
    simp at this hl;omega
def nbrs (n:Nd):List Int:=n.kids++(if n.par= -1 then[] else[n.par])
def srt (l:List Int):List Int:=l.mergeSort fun x y=>decide (x≤y)
theorem srt_length (l:List Int):(srt l).length=l.length:=List.length_mergeSort l
theorem srt_mem (l:List Int) (x:Int):x∈srt l↔x∈l:=(List.mergeSort_perm l _).mem_iff
theorem srt_asc {l:List Int} (h:l.Nodup):(srt l).Pairwise (· < ·):=by
 have h1:(srt l).Pairwise (fun x y=>decide (x≤y)=true):=List.pairwise_mergeSort (le:=fun x y:Int=>decide (x≤y)) (fun a b c h1 h2=>by simp at *;omega) (fun a b=>by simp;omega) l;have h2:(srt l).Nodup:=(List.mergeSort_perm l _).symm.nodup h;exact(h1.and h2).imp (fun {a b} h=>by have:=of_decide_eq_true h.1;have:=h.2;omega)
theorem has_iff (l:List Int) (x:Int):hasB l x=true↔x∈l:=by
 unfold hasB;rw [List.any_eq_true];constructor
 ·rintro⟨y,hy,h⟩;have:=of_decide_eq_true h;subst this;exact hy
 ·intro h;exact⟨x,h,by simp⟩
theorem ltB_trans (a b c:Int) (h1:ltB a b=true) (h2:ltB b c=true):ltB a c=true:=by
 unfold ltB at *;simp at *;omega
theorem place_kids {n:Nd} (h:placeB n=true):(∀x∈n.kids,kidB n.id n.par x=true)∧n.kids.Pairwise (· < ·)∧ -1≤n.par:=by
 unfold placeB at h;simp only[Bool.and_eq_true] at h;obtain⟨h1,h2⟩:=(chk_iff (r:=ltB) ltB_trans).1 h.2;exact⟨h1,h2.imp (fun {a b} h=>of_decide_eq_true h),(of_decide_eq_true h.1.1.1.2).1⟩
theorem nbrs_nodup {n:Nd} (h:placeB n=true):(nbrs n).Nodup:=by
 obtain⟨h1,h2,_⟩:=place_kids h;have h3:n.kids.Nodup:=h2.imp (fun {a b} h=>by omega);unfold nbrs;split
 ·simpa using h3
 ·rw [List.nodup_append];refine⟨h3,by simp,?_⟩;intro a ha b hb;have hb':b=n.par:=by simpa using hb
  have:=h1 a ha;unfold kidB at this;simp only[Bool.and_eq_true,decide_eq_true_eq] at this;rw [hb'];exact this.2
theorem near_iff {n:Nd} (h:placeB n=true) (x:Int):nearB n x=true↔x∈nbrs n:=by
 obtain⟨h1,_,h3⟩:=place_kids h;unfold nearB nbrs;rw [Bool.or_eq_true,has_iff,List.mem_append];constructor
 ·rintro(h|h)
  ·simp only[Bool.and_eq_true,decide_eq_true_eq] at h;right
   rw [if_neg (by omega)];simp[h.2]
  ·exact .inl h
 ·rintro(h|h)
  ·exact .inr h
  ·left
   split at h
   ·simp at h
   ·have:x=n.par:=by simpa using h
    exact Za36
theorem nbrs_length {n:Nd} (h:placeB n=true):((nbrs n).length:Int)=n.kids.length+(if 0≤n.par then 1 else 0):=by
 obtain⟨_,_,h3⟩:=place_kids h;unfold nbrs;by_cases hp:n.par= -1
 ·rw [if_pos hp,if_neg (by omega)];simp
 ·rw [if_neg hp,if_pos (by omega)];simp
theorem told_eq {n:Nd} (hp:placeB n=true):toldB n=(decide (n.seen.map (·.f)=srt (nbrs n))&&n.seen.all snB):=by
 have hnd:=nbrs_nodup hp;have hsr:=srt_asc hnd;unfold toldB;rw [chk_and,←nbrs_length hp,←Bool.and_assoc];congr 1
 rw [Bool.eq_iff_iff,Bool.and_eq_true,decide_eq_true_iff,decide_eq_true_iff,chk_iff (fun a b c h1 h2=>ltB_trans a.f b.f c.f h1 h2)];constructor
 ·rintro⟨h1,h2,h3⟩;refine asc_eq _ _ ?_ hsr ?_ ?_
  ·rw [List.pairwise_map];exact h3.imp (fun {a b} h=>of_decide_eq_true h)
  ·intro x hx;obtain⟨s,hs,rfl⟩:=List.mem_map.1 hx;rw [srt_mem];exact(near_iff hp _).1 (h2 s hs)
  ·rw [srt_length,List.length_map];omega
 ·intro h;refine⟨?_,?_,?_⟩
  ·have:=congrArg List.length h;rw [srt_length,List.length_map] at this;omega
  ·intro s hs;rw [near_iff hp,←srt_mem,←h];exact List.mem_map.2 ⟨s,hs,rfl⟩
  ·rw [←h,List.pairwise_map] at hsr;exact hsr.imp (fun {a b} h=>decide_eq_true h)
end Mth
namespace Mth
abbrev klt (a b:Pu):Prop:=a.k.toList < b.k.toList
theorem less_iff (a b:ByteArray):Op.bytesLess a.toList b.toList=true↔a.toList < b.toList:=by
 rw [bytesLess_eq,decide_eq_true_iff]
theorem sle_false_iff (a b:ByteArray):sle a b=false↔b.toList < a.toList:=by
 unfold sle;rw [bytesLess_eq,Bool.or_eq_false_iff,decide_eq_false_iff_not,beq_eq_false_iff_ne];constructor
 ·rintro⟨h1,h2⟩;rcases List.le_iff_lt_or_eq.1 (List.not_lt.1 h1) with h|h
  ·exact h
  ·exact absurd h.symm h2
 ·intro h;exact⟨List.lt_asymm h,fun e=>by rw [e] at h;exact List.lt_irrefl _ h⟩
theorem pairwise_of_next {R:Pu→Pu→Prop} (tr:∀a b c,R a b→R b c→R a c):∀(l:List Pu),(∀i (h:i+1 < l.length),R l[i] l[i+1])→l.Pairwise R:=by
 intro l;induction l with
 |nil=>intro _;exact List.Pairwise.nil
 |cons x r ih=>
  intro h
  have hr:r.Pairwise R:=ih fun i hi=>h (i+1) (by simpa using hi)
  refine List.Pairwise.cons ?_ hr
  intro y hy
  cases r with
  |nil=>simp at hy
  |cons z s=>
   have hxz:R x z:=h 0 (by simp)
   rcases List.mem_cons.1 hy with rfl|hy
   ·exact hxz
   ·exact tr _ _ _ hxz ((List.pairwise_cons.1 hr).1 y hy)
theorem psOk_iff (l:List Pu):psOk l=true↔(∀p∈l,puOk p=true)∧l.Pairwise klt∧l.length≤20:=by
 unfold psOk;rw [Bool.and_eq_true,List.all_eq_true,decide_eq_true_iff];constructor
 ·rintro⟨h,h20⟩;refine⟨?_,?_,h20⟩
  ·intro p hp;obtain⟨i,hi,rfl⟩:=List.mem_iff_getElem.1 hp;have h1:=h i (List.mem_range.2 hi);unfold okAt at h1;rw [Bool.and_eq_true] at h1;simpa [List.getD,hi] using h1.1
  ·refine pairwise_of_next (fun a b c (h1:klt a b) (h2:klt b c)=>(List.lt_trans h1 h2:klt a c)) l fun i hi=>?_
   have h1:=h (i+1) (List.mem_range.2 hi);unfold okAt at h1;rw [Bool.and_eq_true] at h1;have h2:=h1.2;have hi0:i < l.length:=by omega
   simp[List.getD,hi,hi0] at h2;exact(sle_false_iff _ _).1 h2
 ·rintro⟨h,hp,h20⟩;refine⟨?_,h20⟩;intro i hi;have hi':=List.mem_range.1 hi;unfold okAt;rw [Bool.and_eq_true];refine⟨by simpa [List.getD,hi'] using h l[i] (List.getElem_mem hi'),?_⟩;cases i with
  |zero=>rfl
  |succ i=>
   have hi0:i < l.length:=by omega
   have h2:=(sle_false_iff l[i+1].k l[i].k).2 (List.pairwise_iff_getElem.1 hp i (i+1) hi0 hi' (by omega))
   simp[List.getD,hi',hi0,h2]
def headP (l:List Pu) (k:ByteArray):List Pu:=l.takeWhile fun q=>Op.bytesLess q.k.toList k.toList
def fromP (l:List Pu) (k:ByteArray):List Pu:=l.dropWhile fun q=>Op.bytesLess q.k.toList k.toList
def tailP (l:List Pu) (k:ByteArray):List Pu:=match fromP l k with
 |[]=>[]
 |q::r=>if q.k.toList == k.toList then r else q::r
def putP (l:List Pu) (p:Pu):List Pu:=headP l p.k++p::tailP l p.k
theorem head_from (l:List Pu) (k:ByteArray):headP l k++fromP l k=l:=List.takeWhile_append_dropWhile
theorem takeWhile_imp (f:Pu→Bool):∀(l:List Pu) (q:Pu),q∈l.takeWhile f→f q=true:=by
 intro l;induction l with
 |nil=>intro q hq;simp at hq
 |cons x r ih=>
  intro q hq
  rw [List.takeWhile_cons] at hq
  split at hq
  ·rename_i hx
   rcases List.mem_cons.1 hq with rfl|hq
   ·exact hx
   ·exact ih q hq
  ·simp at hq
theorem head_lt {l:List Pu} {k:ByteArray} {q:Pu} (h:q∈headP l k):q.k.toList < k.toList:=(less_iff _ _).1 (takeWhile_imp _ l q h)
theorem tail_sub (l:List Pu) (k:ByteArray):∀q∈tailP l k,q∈fromP l k:=by
 intro q hq;unfold tailP at hq;split at hq
 ·simp at hq
 ·rename_i x r e
  rw [e];split at hq
  ·exact List.mem_cons_of_mem _ hq
  ·exact hq
theorem from_head (l:List Pu) (k:ByteArray) (q:Pu) (r:List Pu) (h:fromP l k=q::r):¬q.k.toList < k.toList:=by
 unfold fromP at h;have h2:=List.head?_dropWhile_not (fun q:Pu=>Op.bytesLess q.k.toList k.toList) l;rw [h] at h2;simp at h2;intro h3;rw [(less_iff _ _).2 h3] at h2;cases h2
theorem tail_gt {l:List Pu} {k:ByteArray} (hp:l.Pairwise klt):∀q∈tailP l k,k.toList < q.k.toList:=by
 have hp2:(fromP l k).Pairwise klt:=hp.sublist (List.dropWhile_sublist _);unfold tailP;cases hf:fromP l k with
 |nil=>intro q hq;simp at hq
 |cons x r=>
  have hx:=from_head l k x r hf
  rw [hf] at hp2
  have hr:=(List.pairwise_cons.1 hp2).1
  dsimp only
  by_cases he:x.k.toList=k.toList
  ·rw [if_pos (by simpa using he)];intro q hq;have:=hr q hq;unfold klt at this;rw [he] at this;exact this
  ·rw [if_neg (by simpa using he)]
   have hkx:k.toList < x.k.toList:=by
    rcases List.le_iff_lt_or_eq.1 (List.not_lt.1 hx) with h|h
    ·exact h
    ·exact absurd h.symm he
   intro q hq;rcases List.mem_cons.1 hq with rfl|hq
   ·exact hkx
   ·exact List.lt_trans hkx (hr q hq)
theorem tail_pairwise {l:List Pu} {k:ByteArray} (hp:l.Pairwise klt):(tailP l k).Pairwise klt:=by
 have hp2:(fromP l k).Pairwise klt:=hp.sublist (List.dropWhile_sublist _);unfold tailP;cases hf:fromP l k with
 |nil=>exact List.Pairwise.nil
 |cons x r=>
  rw [hf] at hp2
  dsimp only
  split
  ·exact(List.pairwise_cons.1 hp2).2
  ·exact hp2
theorem psOk_put {l:List Pu} (p:Pu) (h:psOk l=true):psOk (putP l p)=(puOk p&&decide ((putP l p).length≤20)):=by
 obtain⟨h1,h2,h3⟩:=(psOk_iff l).1 h;apply Bool.eq_iff_iff.2
 rw [psOk_iff,Bool.and_eq_true,decide_eq_true_iff];constructor
 ·rintro⟨g1,_,g3⟩;exact⟨g1 p (by unfold putP;simp),g3⟩
 ·rintro⟨g1,g3⟩;refine⟨?_,?_,g3⟩
  ·intro q hq;unfold putP at hq;rcases List.mem_append.1 hq with hq|hq
   ·exact h1 q ((List.takeWhile_sublist _).mem hq)
   ·rcases List.mem_cons.1 hq with rfl|hq
    ·exact g1
    ·exact h1 q ((List.dropWhile_sublist _).mem (tail_sub l p.k q hq))
  ·unfold putP;rw [List.pairwise_append];refine⟨h2.sublist (List.takeWhile_sublist _),List.pairwise_cons.2 ⟨fun q hq=>tail_gt h2 q hq,tail_pairwise h2⟩,?_⟩;intro q hq q' hq';rcases List.mem_cons.1 hq' with rfl|hq'
   ·exact head_lt hq
   ·exact List.lt_trans (head_lt hq) (tail_gt h2 q' hq')
def withP (l:List Pu) (p:Pu) (n:Int):List Pu×Bool:=
 if psOk l&&decide (1≤n∧n≤1000000000)&&psOk (putP l p) then(putP l p,true) else(l,false)
end Mth
theorem infoByte:(Try.prog.info? 5).map (fun i=>(i.zero,i.size,i.bytes))=some (some (.int .u8 0),1,1):=by kernel_rfl
theorem sizeByte:(Try.prog.info? 5).map (·.size)=some 1:=by kernel_rfl
theorem cellsByte:Try.prog.cellsOf 5=1:=by kernel_rfl
theorem make_bytes (n:Nat) (hn:n≤281474976710656):∃M:Array Value,M.size=n∧∀W:World,(Instr.makeSlice 81 (.int .i64 (n:Int)) (.int .i64 (n:Int))).run Try.prog W= .ok (.slice (some ⟨W.heap.size,0,none⟩) n n) (W.alloc (.cells M 5)):=by
 obtain⟨i0,hi,hz0,hz1,hz2⟩:=info_parts infoByte;refine⟨madeCells (Value.int .u8 0).cells (((n:Nat):Int).toNat*i0.size),by rw [size_madeCells,hz1];simp,fun W=>?_⟩;simpa using run_make (P:=Try.prog) W 81 5 i0 (.int .u8 0) Try.underlying81 hi hz0 .i64 .i64 (n:Int) (n:Int) (by omega) (by omega) (by rw [hz2];omega) (by omega)
theorem copy_all (w:World) (s:ByteArray) (M:Array Value) (hM:M.size=s.size):∃Y:Array Value,Y.toList=s.data.toList.map bv∧
 (Builtin.copy_ #[81,9] 3 #[.slice (some ⟨w.heap.size,0,none⟩) s.size s.size,.string s]).run Try.prog (w.alloc (.cells M 5))= .ok (goInt s.size) ((w.alloc (.cells M 5)).setRow w.heap.size Y):=by
 have h:=Lib.run_copy_row_string (P:=Try.prog) (w.alloc (.cells M 5)) 81 9 3 5 w.heap.size 0 s.size s.size s M 5 Try.underlying81 sizeByte (heap_alloc_new w _) (Nat.le_refl _) (by omega);refine⟨_,?_,h⟩;rw [List.toList_toArray,List.take_zero,List.nil_append,List.drop_of_length_le (by rw [Array.length_toList];omega),List.append_nil];rfl
set_option maxHeartbeats 2000000
theorem implAm (n:Int) (w:World):Calls Try.prog 70 #[.int .i64 n] w fun e w'=>e= .returned (.bool (decide (Inn n 0 1000000000)))∧w=w':=by
 by_cases h0:0≤n
 ·by_cases h1:n≤1000000000
  ·rw [decide_eq_true (show Inn n 0 1000000000 from⟨h0,h1⟩)];exact Za28
  ·rw [decide_eq_false (show¬Inn n 0 1000000000 from fun h=>h1 h.2)];exact Za28
 ·rw [decide_eq_false (show¬Inn n 0 1000000000 from fun h=>h0 h.1)];exact Za28
theorem implAmB (n:Int) (b:Bool) (w:World) (h:amB n=b):Calls Try.prog 70 #[.int .i64 n] w fun e w'=>e= .returned (.bool b)∧w=w':=by
 have e:decide (Inn n 0 1000000000)=b:=h;rw [←e];exact implAm n w
theorem implKeyB (s:ByteArray) (b:Bool) (w:World) (h:keyOk s.data.toList=b):Calls Try.prog 68 #[.string s] w fun e w'=>e= .returned (.bool b)∧w=w':=by
 rw [←h];exact implKeyOk s w
theorem implPuOk (p:Pu) (w:World):Calls Try.prog 66 #[puv p] w fun e w'=>e= .returned (.bool (puOk p))∧Below w.heap.size w w':=by
 obtain⟨pk,pm,pf,ps⟩:=p;cases hk:keyOk pk.data.toList
 case' false=>
  have HP:=hide (show puOk ⟨pk,pm,pf,ps⟩=false by simp[puOk,hk])
  have HK:=hide (fun w1=>implKeyB pk false w1 hk)
  clear hk
  go_enter Try.func66,Try.ntmps66
  go_wp2_with (go_at_call 68;refine(HK _).mono ?_;rintro e w1 ⟨rfl,rfl⟩)
  go_ret
  exact⟨ret_bool HP.symm,below_one' w _⟩
 have HK:=hide (fun w1=>implKeyB pk true w1 hk);cases h1:amB pm
 case' false=>
  have HP:=hide (show puOk ⟨pk,pm,pf,ps⟩=false by simp[puOk,h1])
  have H1:=hide (fun w1=>implAmB pm false w1 h1)
  clear hk h1
  go_enter Try.func66,Try.ntmps66
  go_wp2_with (first|(go_at_call 68;refine(HK _).mono ?_;rintro e w1 ⟨rfl,rfl⟩)|(go_at_call 70;refine(H1 _).mono ?_;rintro e w1 ⟨rfl,rfl⟩))
  go_ret
  exact⟨ret_bool HP.symm,below_one' w _⟩
 have H1:=hide (fun w1=>implAmB pm true w1 h1);cases h2:amB pf
 case' false=>
  have HP:=hide (show puOk ⟨pk,pm,pf,ps⟩=false by simp[puOk,h2])
  have H2:=hide (fun w1=>implAmB pf false w1 h2)
  clear hk h1 h2
  go_enter Try.func66,Try.ntmps66
  go_wp2_with (first|(go_at_call 68;refine(HK _).mono ?_;rintro e w1 ⟨rfl,rfl⟩)|(go_at_call_of 70 pm;refine(H1 _).mono ?_;rintro e w1 ⟨rfl,rfl⟩)|(go_at_call_of 70 pf;refine(H2 _).mono ?_;rintro e w1 ⟨rfl,rfl⟩))
  go_ret
  exact⟨ret_bool HP.symm,below_one' w _⟩
 have H2:=hide (fun w1=>implAmB pf true w1 h2);cases h3:amB ps
 case' false=>
  have HP:=hide (show puOk ⟨pk,pm,pf,ps⟩=false by simp[puOk,h3])
  have H3:=hide (fun w1=>implAmB ps false w1 h3)
  clear hk h1 h2 h3
  go_enter Try.func66,Try.ntmps66
  go_wp2_with (first|(go_at_call 68;refine(HK _).mono ?_;rintro e w1 ⟨rfl,rfl⟩)|(go_at_call_of 70 pm;refine(H1 _).mono ?_;rintro e w1 ⟨rfl,rfl⟩)|(go_at_call_of 70 pf;refine(H2 _).mono ?_;rintro e w1 ⟨rfl,rfl⟩)|(go_at_call_of 70 ps;refine(H3 _).mono ?_;rintro e w1 ⟨rfl,rfl⟩))
  go_ret
  exact⟨ret_bool HP.symm,below_one' w _⟩
 have H3:=hide (fun w1=>implAmB ps true w1 h3);have g2:0≤pf∧pf≤1000000000:=of_decide_eq_true h2;have g3:0≤ps∧ps≤1000000000:=of_decide_eq_true h3;obtain⟨g20,g21⟩:=g2;obtain⟨g30,g31⟩:=g3;have HP:=hide (show puOk ⟨pk,pm,pf,ps⟩=amB (pf+ps) by simp[puOk,hk,h1,h2,h3]);have H4:=hide (fun w1=>implAmB (pf+ps) _ w1 rfl);clear hk h1 h2 h3;go_enter Try.func66,Try.ntmps66
 go_wp2_with (first|(go_at_call 68;refine(HK _).mono ?_;rintro e w1 ⟨rfl,rfl⟩)|(go_at_call_of 70 pm;refine(H1 _).mono ?_;rintro e w1 ⟨rfl,rfl⟩)|(go_at_call_of 70 pf;refine(H2 _).mono ?_;rintro e w1 ⟨rfl,rfl⟩)|(go_at_call_of 70 ps;refine(H3 _).mono ?_;rintro e w1 ⟨rfl,rfl⟩)|(go_at_call_of 70 (pf+ps);refine(H4 _).mono ?_;rintro e w1 ⟨rfl,rfl⟩))
 go_ret;exact⟨ret_bool HP.symm,below_one' w _⟩
namespace Fo
open Go.RowKit
theorem two_blocks {w w1:World} {A B:Obj} (hb:Below ((w.alloc A).alloc B).heap.size ((w.alloc A).alloc B) w1):
 w1.heap[w.heap.size]?=some A∧w1.heap[w.heap.size+1]?=some B∧w.heap.size+1 < w1.heap.size∧Below w.heap.size w w1:=by
 have hs:((w.alloc A).alloc B).heap.size=w.heap.size+1+1:=by simp
 have hz:=hb.size;refine⟨?_,?_,by omega,(((Below.refl _ _).alloc (Nat.le_refl _) _).alloc (by simp) _).trans (hb.mono (by omega))⟩
 ·rw [hb.block _ (by omega),Below.heap_alloc _ _ _ (by simp)];exact heap_alloc_new w A
 ·rw [hb.block _ (by omega)];have h:=heap_alloc_new (w.alloc A) B;rwa [show(w.alloc A).heap.size=w.heap.size+1 by simp] at h
theorem one_block {w w1:World} {A:Obj} (hb:Below (w.alloc A).heap.size (w.alloc A) w1):
 w1.heap[w.heap.size]?=some A∧w.heap.size < w1.heap.size∧Below w.heap.size w w1:=by
 have hs:(w.alloc A).heap.size=w.heap.size+1:=by simp
 have hz:=hb.size;refine⟨?_,by omega,((Below.refl _ _).alloc (Nat.le_refl _) _).trans (hb.mono (by omega))⟩;rw [hb.block _ (by omega)];exact heap_alloc_new w A
theorem blk_set {w:World} {c:Nat} {cs:Array Value} {t:TypeId} (h:w.heap[c]?=some (.cells cs t (0,0))) (i:Nat) (v:Value):(w.setCell ⟨c,i,none⟩ v).heap[c]?=some (.cells (cs.setIfInBounds i v) t (0,0)):=by
 exact Za49
theorem four_set {w:World} {g:Nat} {a0 a1 a2 a3 b0 b1 b2 b3:Value} {t:TypeId} (h:w.heap[g]?=some (.cells #[a0,a1,a2,a3] t (0,0))):
 ((((w.setCell ⟨g,0,none⟩ b0).setCell ⟨g,1,none⟩ b1).setCell ⟨g,2,none⟩ b2).setCell ⟨g,3,none⟩ b3).heap[g]?=some (.cells #[b0,b1,b2,b3] t (0,0)):=
 blk_set (blk_set (blk_set (blk_set h 0 b0) 1 b1) 2 b2) 3 b3
theorem four_below {a w:World} {B g:Nat} {b0 b1 b2 b3:Value} (h:Below B a w) (hg:B≤g):
 Below B a ((((w.setCell ⟨g,0,none⟩ b0).setCell ⟨g,1,none⟩ b1).setCell ⟨g,2,none⟩ b2).setCell ⟨g,3,none⟩ b3):=
 (((h.setCell (p:=⟨g,0,none⟩) hg b0).setCell (p:=⟨g,1,none⟩) hg b1).setCell (p:=⟨g,2,none⟩) hg b2).setCell (p:=⟨g,3,none⟩) hg b3
theorem four_other {w:World} {g g':Nat} {b0 b1 b2 b3:Value} {o:Option Obj} (h:w.heap[g']?=o) (hne:g'≠g):
 ((((w.setCell ⟨g,0,none⟩ b0).setCell ⟨g,1,none⟩ b1).setCell ⟨g,2,none⟩ b2).setCell ⟨g,3,none⟩ b3).heap[g']?=o:=by
 rw [Below.heap_setCell _ _ _ _ hne,Below.heap_setCell _ _ _ _ hne,Below.heap_setCell _ _ _ _ hne,Below.heap_setCell _ _ _ _ hne,h]
theorem one_other {w:World} {g g' i:Nat} {v:Value} {o:Option Obj} (h:w.heap[g']?=o) (hne:g'≠g):(w.setCell ⟨g,i,none⟩ v).heap[g']?=o:=by
 rw [Below.heap_setCell _ _ _ _ hne,h]
theorem bodyPost_at {P:Program} {fn:Func} {Q:Ending→World→Prop} {x:Exit} {act:Act} {W:World} (h:∀W',W'=W→bodyPost P fn Q x act W'):bodyPost P fn Q x act W:=h W rfl
theorem wp_at {P:Program} {c:Code} {Q:Exit→Act→World→Prop} {a:Act} {W:World} (h:∀W',W'=W→Code.wp P c Q a W'):Code.wp P c Q a W:=h W rfl
theorem lt_of_blk {w:World} {g:Nat} {o:Obj} (h:w.heap[g]?=some o):g < w.heap.size:=by
 exact Za16
theorem setCell_size (w:World) (p:Addr) (v:Value):(w.setCell p v).heap.size=w.heap.size:=by
 unfold World.setCell;simp
end Fo
set_option maxHeartbeats 4000000
theorem implPuOkB (p:Pu) (b:Bool) (w:World) (h:puOk p=b):Calls Try.prog 66 #[puv p] w fun e w'=>e= .returned (.bool b)∧Below w.heap.size w w':=by
 rw [←h];exact implPuOk p w
theorem less_sle (a b:ByteArray):Op.bytesLess b.toList a.toList= !sle a b:=by
 cases h:sle a b
 ·exact(less_iff _ _).2 ((sle_false_iff a b).1 h)
 ·cases h2:Op.bytesLess b.toList a.toList
  ·rfl
  ·rw [(sle_false_iff a b).2 ((less_iff _ _).1 h2)] at h;cases h
theorem implPursesOk (a:Option Addr) (cap:Nat) (l:List Pu) (w:World) (hl:l.length≤1048600) (ha:PursesAt w a l):
 Calls Try.prog 53 #[.slice a l.length cap] w fun e w'=>e= .returned (.bool (psOk l))∧Below w.heap.size w w':=by
 by_cases h20:l.length≤20
 ·have HA:=hide ha;clear ha;have hg20:decide (20 < (l.length:Int))=false:=decide_eq_false (by omega);go_enter Try.func53,Try.ntmps53
  go_wp2_with fail;go_loopw [10] (fun i wr=>∃k:Nat,k≤l.length∧i= .int .i64 k∧(List.range k).all (okAt l)=true∧Below w.heap.size w wr) (fun i _=>l.length - (intOf i).toNat)
  case atStart=>exact Za47
  case round=>
   obtain⟨k,hk,rfl,hall,hbel⟩:=hrel;have HBL:=hide hbel;have HALL:=hide hall;clear hall hbel;by_cases hlt:k < l.length
   ·open Sa38 in exact Ya12
   ·exact Za12
 ·have HF:=hide (show psOk l=false by unfold psOk;simp[h20]);have hg20:decide (20 < (l.length:Int))=true:=decide_eq_true (by omega);clear ha;go_enter Try.func53,Try.ntmps53
  go_wp2_with fail;go_ret;exact⟨ret_bool HF.symm,Below.refl _ _⟩
end Go.Proofs.Ytheiblbhlmaphaa
