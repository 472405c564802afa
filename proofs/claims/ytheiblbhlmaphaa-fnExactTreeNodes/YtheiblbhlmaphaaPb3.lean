/-
  TrMarkM, TrMarkN, TrHeldN.
-/
import Derived.Test.YtheiblbhlmaphaaPb2
import Derived.Test.YtheiblbhlmaphaaPa7
import Derived.Test.YtheiblbhlmaphaaPbZ1
import Derived.Test.YtheiblbhlmaphaaPa6
namespace Go.Proofs.Ytheiblbhlmaphaa
open Go.RowKit
open Mth
structure SmallN (n:Nd):Prop where
 pu:n.pu=[]
 out:n.out=[]
 reqs:n.reqs=[]
 ids:∀x∈n.seen,x.ids=[]
 k:n.kids.length≤100
 s:n.seen.length≤100
theorem SmallN.sz {n:Nd} (h:SmallN n):NdSz n 1048576:=by
 refine⟨Nat.le_trans h.k (by omega),?_,?_,?_,?_,?_,?_,?_,?_⟩
 ·rw [h.pu];exact Nat.zero_le _
 ·rw [h.out];exact Nat.zero_le _
 ·exact Nat.le_trans h.s (by omega)
 ·rw [h.reqs];exact Nat.zero_le _
 ·intro x hx;rw [h.pu] at hx;simp at hx
 ·intro x hx;rw [h.out] at hx;simp at hx
 ·intro x hx;rw [h.ids x hx];exact Nat.zero_le _
 ·intro x hx;rw [h.reqs] at hx;simp at hx
def mNd (m:Nat) (n:Nd):Nd:=⟨(m:Int),(m:Int)+1,mks mkInt 1 (m+2) n.kids n.kids.length,(m:Int)+2+n.kids.length,[],[],mSeen (m+3+n.kids.length) n.seen,(eSeen (m+3+n.kids.length) n.seen:Nat),[]⟩
def eNd (m:Nat) (n:Nd):Nat:=eSeen (m+3+n.kids.length) n.seen+1
theorem eNd_le {m:Nat} {n:Nd} (h:SmallN n):m < eNd m n∧eNd m n≤m+400:=by
 have h1:=eSeen_le (m+3+n.kids.length) 0 n.seen (fun x hx=>by rw [h.ids x hx];exact Nat.le_refl _);have h2:=h.k;have h3:=h.s;unfold eNd;omega
theorem all_mNd {G:Blks} {m:Nat} {n:Nd} (h:SmallN n):G.all (mNd m n)=G.all n:=by
 unfold Blks.all mNd;dsimp only;rw [h.pu,h.out,h.reqs,fp_len (l:=mks mkInt 1 (m+2) n.kids n.kids.length) (l':=n.kids) (mks_length mkInt 1 (m+2) n.kids n.kids.length (Nat.le_refl _)),fp_len (l:=mSeen (m+3+n.kids.length) n.seen) (l':=n.seen) (mSeen_length _ _),fpI_congr (mSeen_length (m+3+n.kids.length) n.seen) (fun i h1 h2=>by rw [mSeen_at _ _ i h2,mSn_ids])]
def mNds:Nat→List NdI→List NdI
 |_,[]=>[]
 |m,x::l=>(mNd m x.1,x.2)::mNds (eNd m x.1) l
def eNds:Nat→List NdI→Nat
 |m,[]=>m
 |m,x::l=>eNds (eNd m x.1) l
theorem mNds_snoc (m:Nat) (l:List NdI) (x:NdI):mNds m (l++[x])=mNds m l++[(mNd (eNds m l) x.1,x.2)]:=by
 induction l generalizing m with
 |nil=>rfl
 |cons y l ih=>simp only[List.cons_append,mNds,eNds,ih]
theorem eNds_snoc (m:Nat) (l:List NdI) (x:NdI):eNds m (l++[x])=eNd (eNds m l) x.1:=by
 induction l generalizing m with
 |nil=>rfl
 |cons y l ih=>simp only[List.cons_append,eNds,ih]
theorem mNds_length (m:Nat) (l:List NdI):(mNds m l).length=l.length:=by
 induction l generalizing m with
 |nil=>rfl
 |cons y l ih=>simp only[mNds,List.length_cons,ih]
theorem eNds_le (m:Nat) (l:List NdI) (h:∀x∈l,SmallN x.1):m≤eNds m l∧eNds m l≤m+l.length*400:=by
 induction l generalizing m with
 |nil=>simp[eNds]
 |cons y l ih=>
  have h1:=eNd_le (m:=m) (h y (List.mem_cons_self ..))
  have h2:=ih (eNd m y.1) (fun x hx=>h x (List.mem_cons_of_mem _ hx))
  simp only[eNds,List.length_cons]
  omega
def mNk (m:Nat) (l:List NdI) (k:Nat):List NdI:=mNds m (l.take k)++l.drop k
theorem mNk_length (m:Nat) (l:List NdI) (k:Nat) (hk:k≤l.length):(mNk m l k).length=l.length:=by simp[mNk,mNds_length];omega
theorem mNk_zero (m:Nat) (l:List NdI):mNk m l 0=l:=rfl
theorem mNk_all (m:Nat) (l:List NdI):mNk m l l.length=mNds m l:=by simp[mNk]
theorem mNk_at (m:Nat) (l:List NdI) (k:Nat) (hk:k < l.length):(mNk m l k)[k]'(by rw [mNk_length m l k (by omega)];exact hk)=l[k]:=by
 unfold mNk;rw [List.getElem_append_right (by rw [mNds_length,List.length_take];omega)];simp[mNds_length,List.length_take,Nat.min_eq_left (Nat.le_of_lt hk)]
theorem mNk_set (m:Nat) (l:List NdI) (k:Nat) (hk:k < l.length):(mNk m l k).set k (mNd (eNds m (l.take k)) l[k].1,l[k].2)=mNk m l (k+1):=by
 unfold mNk;have hlen:(mNds m (l.take k)).length=k:=by rw [mNds_length,List.length_take];omega
 rw [List.set_append_right _ _ (by omega),hlen,Nat.sub_self,List.take_succ_eq_append_getElem hk,mNds_snoc,List.drop_eq_getElem_cons hk,List.set_cons_zero,List.append_assoc];rfl
theorem mNds_at (m:Nat) (l:List NdI) (k:Nat) (hk:k < l.length):(mNds m l)[k]'(by rw [mNds_length];exact hk)=(mNd (eNds m (l.take k)) l[k].1,l[k].2):=by
 induction l generalizing m k with
 |nil=>simp at hk
 |cons y l ih=>
  cases k with
  |zero=>rfl
  |succ k=>simpa [mNds,eNds] using ih (eNd m y.1) k (by simpa using hk)
theorem GR.W.nineR {w:World} {a:Option Addr} {g:Nat} {l:List R9} (h:GR.W enc9 9 w a g l) (i:Nat) (hi:i < l.length):a=some ⟨g,0,none⟩∧g < w.heap.size∧(w.cell? ⟨g,i*9,none⟩=some (.int .i64 l[i].id)∧w.cell? ⟨g,i*9+1,none⟩=some (.int .i64 l[i].par)∧w.cell? ⟨g,i*9+2,none⟩=some (l[i].k)∧w.cell? ⟨g,i*9+3,none⟩=some (.int .i64 l[i].next)∧w.cell? ⟨g,i*9+4,none⟩=some (l[i].p)∧w.cell? ⟨g,i*9+5,none⟩=some (l[i].o)∧w.cell? ⟨g,i*9+6,none⟩=some (l[i].s)∧w.cell? ⟨g,i*9+7,none⟩=some (.int .i64 l[i].old)∧w.cell? ⟨g,i*9+8,none⟩=some (l[i].r))∧w.frozen? ⟨g,i*9,none⟩=false∧w.frozen? ⟨g,i*9+1,none⟩=false∧w.frozen? ⟨g,i*9+2,none⟩=false∧w.frozen? ⟨g,i*9+3,none⟩=false∧w.frozen? ⟨g,i*9+4,none⟩=false∧w.frozen? ⟨g,i*9+5,none⟩=false∧w.frozen? ⟨g,i*9+6,none⟩=false∧w.frozen? ⟨g,i*9+7,none⟩=false∧w.frozen? ⟨g,i*9+8,none⟩=false:=by
 obtain⟨e,hg,hc⟩:=h i hi;exact⟨e,hg,⟨by simpa using(hc 0 (by omega)).1,by simpa using(hc 1 (by omega)).1,by simpa using(hc 2 (by omega)).1,by simpa using(hc 3 (by omega)).1,by simpa using(hc 4 (by omega)).1,by simpa using(hc 5 (by omega)).1,by simpa using(hc 6 (by omega)).1,by simpa using(hc 7 (by omega)).1,by simpa using(hc 8 (by omega)).1⟩,by simpa using(hc 0 (by omega)).2,(hc 1 (by omega)).2,(hc 2 (by omega)).2,(hc 3 (by omega)).2,(hc 4 (by omega)).2,(hc 5 (by omega)).2,(hc 6 (by omega)).2,(hc 7 (by omega)).2,(hc 8 (by omega)).2⟩
theorem GR.W.cellR {w:World} {a:Option Addr} {g:Nat} {l:List R9} (h:GR.W enc9 9 w a g l) (k j:Nat) (hk:k < l.length) (hj:j < 9) (v:Value) (x:R9) (hx:enc9 x=(enc9 l[k]).set j v):GR.W enc9 9 (w.setCell ⟨g,k*9+j,none⟩ v) a g (l.set k x):=fun i hi=>by
 have hi':i < l.length:=by simpa using hi
 obtain⟨e,hg,hc⟩:=h i hi';refine⟨e,by simpa [World.setCell] using hg,fun q hq=>⟨?_,by rw [World.frozen?_setCell];exact(hc q hq).2⟩⟩;by_cases hik:i=k
 ·subst hik;rw [List.getElem_set_self,hx];by_cases hqj:q=j
  ·subst hqj;rw [World.cell?_setCell_same _ _ _ ((hc q hq).1.trans (List.getElem?_eq_getElem (by rw [enc9_length];exact hq)))];rw [List.getElem?_set_self (by rw [enc9_length];exact hq)]
  ·rw [World.cell?_setCell_other _ _ _ _ (by first|omega|(simp<;>omega)),(hc q hq).1,List.getElem?_set_ne (by omega)]
 ·rw [World.cell?_setCell_other _ _ _ _ (by first|omega|(simp<;>omega)),(hc q hq).1,List.getElem_set_ne (by omega)]
structure NR (w:World) (a:Option Addr) (g:Nat) (L:List NdI):Prop where
 row:GR.W enc9 9 w a g (rows9 L)
 each:∀x∈L,NodeW w x.2.1 x.2.2 x.1
 nd:(fp g L++fpN L).Nodup
theorem NL.nr {w:World} {lo:Nat} {v:Value} {L:List NdI} (h:NL w lo v L):∃a c g,v= .slice a L.length c∧NR w a g L∧∀x∈fp g L++fpN L,lo≤x∧x < w.heap.size:=by
 have ho:=h.own;rw [←rows9_length L] at ho;obtain⟨a,c,g,hv,hW,hr,ho2⟩:=GR.W.of_own enc9_length ho;rw [rows9_length] at hv;have hfp:fp g (rows9 L)=fp g L:=fp_len (rows9_length L);rw [hfp] at hr ho2;refine⟨a,c,g,hv,⟨hW,h.each,List.nodup_append.2 ⟨?_,h.nd,fun x hx y hy e=>?_⟩⟩,fun x hx=>?_⟩
 ·unfold fp;split<;>simp
 ·subst e;exact h.ne x (ho2 x hx) hy
 ·rcases List.mem_append.1 hx with hx|hx
  ·exact hr x hx
  ·exact h.rng x hx
theorem fpN_at {L:List NdI} {i:Nat} (hi:i < L.length):∀b∈L[i].2.2.all L[i].1,b∈fpN L:=fpN_mem (List.getElem_mem hi)
theorem fpN_far {L:List NdI} (h:(fpN L).Nodup):∀{i k:Nat} (hi:i < L.length) (hk:k < L.length),i≠k→∀b∈L[i].2.2.all L[i].1,b∉L[k].2.2.all L[k].1:=by
 induction L with
 |nil=>intro i k hi;simp at hi
 |cons y L ih=>
  have h2:(y.2.2.all y.1++fpN L).Nodup:=h
  obtain⟨_,h3,h4⟩:=List.nodup_append.1 h2
  intro i k hi hk hne b hb hm
  cases i with
  |zero=>
   cases k with
   |zero=>exact hne rfl
   |succ k=>exact h4 b hb b (fpN_at (L:=L) (i:=k) (by simpa using hk) b (by simpa using hm)) rfl
  |succ i=>
   cases k with
   |zero=>exact h4 b (by simpa using hm) b (fpN_at (L:=L) (i:=i) (by simpa using hi) b (by simpa using hb)) rfl
   |succ k=>exact ih h3 (i:=i) (k:=k) (by simpa using hi) (by simpa using hk) (by omega) b (by simpa using hb) (by simpa using hm)
theorem fpN_set {L:List NdI} {k:Nat} (hk:k < L.length) (x:NdI) (h:x.2.2.all x.1=L[k].2.2.all L[k].1):fpN (L.set k x)=fpN L:=by
 induction L generalizing k with
 |nil=>simp at hk
 |cons y L ih=>
  cases k with
  |zero=>
   show x.2.2.all x.1++fpN L=y.2.2.all y.1++fpN L
   rw [h]
   rfl
  |succ k=>
   show y.2.2.all y.1++fpN (L.set k x)=y.2.2.all y.1++fpN L
   rw [ih (k:=k) (by simpa using hk) (by simpa using h)]
theorem fpN_nd {L:List NdI} (h:(fpN L).Nodup) {k:Nat} (hk:k < L.length) {x:NdI} (e:L[k]=x):(x.2.2.all x.1).Nodup:=by
 subst e;induction L generalizing k with
 |nil=>simp at hk
 |cons y L ih=>
  have h2:(y.2.2.all y.1++fpN L).Nodup:=h
  obtain⟨h1,h3,_⟩:=List.nodup_append.1 h2
  cases k with
  |zero=>exact h1
  |succ k=>exact ih h3 (k:=k) (by simpa using hk)
theorem small_dis {G:Blks} {n:Nd} (h:(G.all n).Nodup):(∀x∈fp G.k n.kids,x∉fp G.s n.seen++fpI G.i n.seen)∧(fp G.s n.seen++fpI G.i n.seen).Nodup:=by
 unfold Blks.all at h;simp only[List.nodup_append,List.mem_append] at h;obtain⟨_,⟨_,⟨_,⟨n4,⟨n5,n6,d6⟩,d5⟩,d4⟩,d3⟩,d2⟩:=h;refine⟨fun x hx hm=>?_,List.nodup_append.2 ⟨n4,n5,fun a ha b hb=>d5 a ha b (.inl hb)⟩⟩;rcases List.mem_append.1 hm with hm|hm
 ·exact d2 x hx x (.inr (.inr (.inl hm))) rfl
 ·exact d2 x hx x (.inr (.inr (.inr (.inl hm)))) rfl
theorem SeenW.off {F:List Nat} {w w':World} {a:Option Addr} {g:Nat} {I:Nat→Nat} {l:List Sn} (h:SeenW w a g I l) (hk:KeepsL F w w') (hd:∀x∈fp g l++fpI I l,x∉F):SeenW w' a g I l:=h.keeps hk (fun x hx=>hd x (List.mem_append_left _ hx)) (fun x hx=>hd x (List.mem_append_right _ hx))
theorem NR.round {w w':World} {a:Option Addr} {g:Nat} {L:List NdI} (h:NR w a g L) (k:Nat) (hk:k < L.length) (x:NdI) (hx2:x.2=L[k].2) (hrow:GR.W enc9 9 w' a g ((rows9 L).set k (r9 x))) (hnode:NodeW w' L[k].2.1 L[k].2.2 x.1) (hall:L[k].2.2.all x.1=L[k].2.2.all L[k].1) (hkeep:KeepsL (g::L[k].2.2.all L[k].1) w w'):NR w' a g (L.set k x)∧KeepsL (fp g L++fpN L) w w':=by
 have hal:x.2.2.all x.1=L[k].2.2.all L[k].1:=by rw [hx2];exact hall
 obtain⟨_,n2,n3⟩:=List.nodup_append.1 h.nd;have hgm:g∈fp g L:=fp_mem (by omega);refine⟨⟨?_,fun y hy=>?_,?_⟩,hkeep.mono (fun z hz=>?_)⟩
 ·have e:rows9 (L.set k x)=(rows9 L).set k (r9 x):=by simp[rows9,List.map_set]
  rw [e];exact hrow
 ·obtain⟨i,hi,rfl⟩:=List.getElem_of_mem hy;by_cases hik:i=k
  ·subst hik;rw [List.getElem_set_self];rw [hx2];exact hnode
  ·rw [List.getElem_set_ne (by omega)];have hi':i < L.length:=by simpa using hi
   refine(h.each L[i] (List.getElem_mem hi')).keeps hkeep (fun b hb hm=>?_);rcases List.mem_cons.1 hm with e|hm
   ·exact n3 g hgm b (fpN_at hi' b hb) e.symm
   ·exact fpN_far n2 hi' hk hik b hb hm
 ·rw [fpN_set hk x hal,fp_len (l:=L.set k x) (l':=L) (by simp)];exact h.nd
 ·rcases List.mem_cons.1 hz with e|hz
  ·rw [e];exact List.mem_append_left _ hgm
  ·exact List.mem_append_right _ (fpN_at hk z hz)
theorem mNk_fp {s:Nat} {L:List NdI} (h:∀x∈L,SmallN x.1) {g k:Nat} (hk:k≤L.length):fp g (mNk s L k)++fpN (mNk s L k)=fp g L++fpN L:=by
 have h1:fp g (mNk s L k)=fp g L:=fp_len (mNk_length s L k hk)
 have h2:∀(m:Nat) (l:List NdI),(∀x∈l,SmallN x.1)→fpN (mNds m l)=fpN l:=fun m l=>by
  induction l generalizing m with
  |nil=>intro _;rfl
  |cons y l ih=>
   intro hl
   show y.2.2.all (mNd m y.1)++fpN (mNds (eNd m y.1) l)=y.2.2.all y.1++fpN l
   rw [all_mNd (hl y (List.mem_cons_self ..)),ih _ (fun x hx=>hl x (List.mem_cons_of_mem _ hx))]
 have h3:fpN (mNk s L k)=fpN (mNds s (L.take k))++fpN (L.drop k):=by simp[mNk,fpN]
 have h4:fpN L=fpN (L.take k)++fpN (L.drop k):=by
  have e:fpN (L.take k++L.drop k)=fpN (L.take k)++fpN (L.drop k):=by unfold fpN;rw [List.flatMap_append]
  rw [List.take_append_drop] at e;exact e
 rw [h1,h3,h4,h2 s (L.take k) (fun x hx=>h x (List.mem_of_mem_take hx))]
theorem NR.keeps {w w':World} {a:Option Addr} {g:Nat} {L:List NdI} {F:List Nat} (h:NR w a g L) (hk:KeepsL F w w') (hF:∀x∈fp g L++fpN L,x∉F):NR w' a g L:=
 ⟨h.row.keeps hk (fun x hx=>hF x (List.mem_append_left _ (by rwa [←fp_len (rows9_length L)]))),fun x hx=>(h.each x hx).keeps hk (fun b hb=>hF b (List.mem_append_right _ (fpN_mem hx b hb))),h.nd⟩
theorem NR.below {w w':World} {a:Option Addr} {g:Nat} {L:List NdI} (h:NR w a g L) (hb:Below w.heap.size w w'):NR w' a g L:=h.keeps (F:=[]) (KeepsL.of_below hb) (fun _ _=>by simp)
set_option maxHeartbeats 8000000
set_option maxRecDepth 100000
theorem markNodeS (a:Option Addr) (g c s:Nat) (L:List NdI) (w:World) (hs0:0 < s) (hs1:s≤1000) (hl:L.length≤1000) (hsm:∀x∈L,SmallN x.1) (ha:NR w a g L):
 Calls Try.prog 11 #[.slice a L.length c,.int .i64 s] w fun e w'=>e= .returned (.int .i64 (eNds s L:Nat))∧NR w' a g (mNds s L)∧KeepsL (fp g L++fpN L) w w':=by
 have HA:=hide ha;have HSM:=hide hsm;clear ha hsm;go_enter Try.func11,Try.ntmps11
 go_wp2_with fail;go_loopw [1,5] (fun kk i wr=>∃k m:Nat,k≤L.length∧i= .int .i64 k∧kk= .int .i64 m∧m=eNds s (L.take k)∧NR wr a g (mNk s L k)∧KeepsL (fp g L++fpN L) w wr) (fun _ i _=>L.length - (intOf i).toNat)
 case atStart=>exact⟨0,s,Nat.zero_le _,rfl,rfl,rfl,by rw [mNk_zero];exact HA,KeepsL.refl _ _⟩
 case round=>
  obtain⟨k,m,hk,rfl,rfl,hm,hR,hkp⟩:=hrel;have HR:=hide hR;have HK:=hide hkp;have HM:=hide hm;clear hR hkp;by_cases hlt:k < L.length
  ·open Sb3 in exact Yb1
  ·open Sb9 in exact Yb4
set_option maxHeartbeats 8000000
theorem heldNodeS (a:Option Addr) (g c n s:Nat) (L:List NdI) (w:World) (hn:n=L.length) (hs0:0 < s) (hs1:s≤1000) (hl:L.length≤1000) (hsm:∀x∈L,SmallN x.1) (ha:NR w a g (mNds s L)):
 Calls Try.prog 12 #[.slice a n c,.int .i64 s] w fun e w'=>e= .returned (.int .i64 (eNds s L:Nat))∧Below w.heap.size w w':=by
 have HA:=hide ha;have HSM:=hide hsm;clear ha hsm;subst hn;go_enter Try.func12,Try.ntmps12
 go_wp2_with fail;go_loopw [1,5] (fun kk i wr=>∃k m:Nat,k≤L.length∧i= .int .i64 k∧kk= .int .i64 m∧m=eNds s (L.take k)∧Below w.heap.size w wr) (fun _ i _=>L.length - (intOf i).toNat)
 case atStart=>exact⟨0,s,Nat.zero_le _,rfl,rfl,rfl,Below.refl _ _⟩
 case round=>
  obtain⟨k,m,hk,rfl,rfl,hm,hbel⟩:=hrel;have HBL:=hide hbel;have HM:=hide hm;clear hbel;by_cases hlt:k < L.length
  ·open Sb4 in exact Yb1
  ·open Sb10 in exact Yb4
theorem node_one {w:World} {a:Option Addr} {g:Nat} {L:List NdI} (h:NR w a g L) (i:Nat) (hi:i < L.length):a=some ⟨g,0,none⟩∧g < w.heap.size∧(∀j,j < 9→w.cell? ⟨g,i*9+j,none⟩=(enc9 (r9 L[i]))[j]?)∧NodeW w L[i].2.1 L[i].2.2 L[i].1:=by
 have hir:i < (rows9 L).length:=by rw [rows9_length];exact hi
 obtain⟨e,hg,hc⟩:=h.row i hir;have hrk:(rows9 L)[i]=r9 L[i]:=by simp[rows9]
 rw [hrk] at hc;exact⟨e,hg,fun j hj=>(hc j hj).1,h.each _ (List.getElem_mem hi)⟩
theorem eqNodeS (a b:Option Addr) (ga gb ca cb n:Nat) (L M:List NdI) (w:World) (hn:n=L.length) (hl:L.length≤1000) (hsz:∀x∈L,NdSz x.1 1048600) (he:M.map (fun x=>x.1)=L.map (fun x=>x.1)) (ha:NR w a ga L) (hb:NR w b gb M):
 Calls Try.prog 8 #[.slice a n ca,.slice b n cb] w fun e w'=>e= .returned (.bool true)∧Below w.heap.size w w':=by
 have HA:=hide ha;have HB:=hide hb;have HE:=hide he;have HSZ:=hide hsz;have hml:M.length=L.length:=by simpa using congrArg List.length he
 clear ha hb he hsz;subst hn;go_enter Try.func8,Try.ntmps8
 go_wp2_with fail;go_loopw [5] (fun i wr=>∃k:Nat,k≤L.length∧i= .int .i64 k∧Below w.heap.size w wr) (fun i _=>L.length - (intOf i).toNat)
 case atStart=>exact⟨0,Nat.zero_le _,rfl,Below.refl _ _⟩
 case round=>
  obtain⟨k,hk,rfl,hbel⟩:=hrel;have HBL:=hide hbel;clear hbel;by_cases hlt:k < L.length
  ·obtain⟨e0,hg0,hc0,hN0⟩:=node_one (HA.below HBL) k hlt;obtain⟨e1,hg1,hc1,hN1⟩:=node_one (HB.below HBL) k (by omega)
   have hsame:(M[k]'(by omega)).1=L[k].1:=by
    have h1:(M.map (fun x=>x.1))[k]'(by simp;omega)=(M[k]'(by omega)).1:=by simp
    have h2:(L.map (fun x=>x.1))[k]'(by simpa using hlt)=L[k].1:=by simp
    rw [←h1,←h2];simp only[unhide HE]
   have HSK:=hide (HSZ L[k] (List.getElem_mem hlt));rw [hsame] at hN1;subst e0 e1;generalize hx:L[k]=x at *;generalize hy:M[k]'(by omega)=y at *;obtain⟨nx,Ax,Gx⟩:=x;obtain⟨ny,Ay,Gy⟩:=y;dsimp only at hsame hN0 hN1 HSK;subst hsame;clear hx hy;have a0:=hc0 0 (by omega);have b0:=hc1 0 (by omega);have a1:=hc0 1 (by omega);have b1:=hc1 1 (by omega);have a2:=hc0 2 (by omega);have b2:=hc1 2 (by omega);have a3:=hc0 3 (by omega);have b3:=hc1 3 (by omega);have a4:=hc0 4 (by omega);have b4:=hc1 4 (by omega);have a5:=hc0 5 (by omega);have b5:=hc1 5 (by omega);have a6:=hc0 6 (by omega);have b6:=hc1 6 (by omega);have a7:=hc0 7 (by omega);have b7:=hc1 7 (by omega);have a8:=hc0 8 (by omega);have b8:=hc1 8 (by omega);simp only[Nat.add_zero] at a0 b0;simp only[enc9,r9,List.getElem?_cons_zero,List.getElem?_cons_succ] at a0 b0 a1 b1 a2 b2 a3 b3 a4 b4 a5 b5 a6 b6 a7 b7 a8 b8;have HN0:=hide hN0.at;have HN1:=hide hN1.at;have HEQ:=hide (fun w1 (h:Below wr.heap.size wr w1)=>eqNode ny Ax Ay w1 HSK (HN0.below h) (HN1.below h));clear hN0 hN1 hc0 hc1;go_wp2_with fail
   go_region_held (fun w'=>(w'.cell? ⟨ga,k*9,none⟩=some (.int .i64 ny.id)∧w'.cell? ⟨ga,k*9+1,none⟩=some (.int .i64 ny.par)∧w'.cell? ⟨ga,k*9+2,none⟩=some (.slice Ax.k ny.kids.length Ax.ck)∧w'.cell? ⟨ga,k*9+3,none⟩=some (.int .i64 ny.next)∧w'.cell? ⟨ga,k*9+4,none⟩=some (.slice Ax.p ny.pu.length Ax.cp)∧w'.cell? ⟨ga,k*9+5,none⟩=some (.slice Ax.o ny.out.length Ax.co)∧w'.cell? ⟨ga,k*9+6,none⟩=some (.slice Ax.s ny.seen.length Ax.cs)∧w'.cell? ⟨ga,k*9+7,none⟩=some (.int .i64 ny.old)∧w'.cell? ⟨ga,k*9+8,none⟩=some (.slice Ax.r ny.reqs.length Ax.cr))∧w'.cell? ⟨gb,k*9,none⟩=some (.int .i64 ny.id)∧w'.cell? ⟨gb,k*9+1,none⟩=some (.int .i64 ny.par)∧w'.cell? ⟨gb,k*9+2,none⟩=some (.slice Ay.k ny.kids.length Ay.ck)∧w'.cell? ⟨gb,k*9+3,none⟩=some (.int .i64 ny.next)∧w'.cell? ⟨gb,k*9+4,none⟩=some (.slice Ay.p ny.pu.length Ay.cp)∧w'.cell? ⟨gb,k*9+5,none⟩=some (.slice Ay.o ny.out.length Ay.co)∧w'.cell? ⟨gb,k*9+6,none⟩=some (.slice Ay.s ny.seen.length Ay.cs)∧w'.cell? ⟨gb,k*9+7,none⟩=some (.int .i64 ny.old)∧w'.cell? ⟨gb,k*9+8,none⟩=some (.slice Ay.r ny.reqs.length Ay.cr)) (go_keep)
    (first
     |(go_at_call 21;refine(HEQ wr.drew (Below.refl wr.heap.size wr).drew).mono ?_;rintro e w5 ⟨rfl,hb5⟩;have hb6:Below wr.heap.size wr w5:=⟨hb5.os,hb5.tape,hb5.output,hb5.size,hb5.block⟩;clear hb5;have HBL5:=hide (HBL.trans (hb6.mono HBL.size));have y0:=(hb6.cell (p:=⟨ga,k*9,none⟩) hg0).trans a0;have z0:=(hb6.cell (p:=⟨gb,k*9,none⟩) hg1).trans b0;have y1:=(hb6.cell (p:=⟨ga,k*9+1,none⟩) hg0).trans a1;have z1:=(hb6.cell (p:=⟨gb,k*9+1,none⟩) hg1).trans b1;have y2:=(hb6.cell (p:=⟨ga,k*9+2,none⟩) hg0).trans a2;have z2:=(hb6.cell (p:=⟨gb,k*9+2,none⟩) hg1).trans b2;have y3:=(hb6.cell (p:=⟨ga,k*9+3,none⟩) hg0).trans a3;have z3:=(hb6.cell (p:=⟨gb,k*9+3,none⟩) hg1).trans b3;have y4:=(hb6.cell (p:=⟨ga,k*9+4,none⟩) hg0).trans a4;have z4:=(hb6.cell (p:=⟨gb,k*9+4,none⟩) hg1).trans b4;have y5:=(hb6.cell (p:=⟨ga,k*9+5,none⟩) hg0).trans a5;have z5:=(hb6.cell (p:=⟨gb,k*9+5,none⟩) hg1).trans b5;have y6:=(hb6.cell (p:=⟨ga,k*9+6,none⟩) hg0).trans a6;have z6:=(hb6.cell (p:=⟨gb,k*9+6,none⟩) hg1).trans b6;have y7:=(hb6.cell (p:=⟨ga,k*9+7,none⟩) hg0).trans a7;have z7:=(hb6.cell (p:=⟨gb,k*9+7,none⟩) hg1).trans b7;have y8:=(hb6.cell (p:=⟨ga,k*9+8,none⟩) hg0).trans a8;have z8:=(hb6.cell (p:=⟨gb,k*9+8,none⟩) hg1).trans b8;clear hb6))
   all_goals
    go_wp2_with fail
    go_roundw
    case rel=>exact⟨k+1,by omega,by go_num,HBL5⟩
    case measure=>simp[intOf];omega
  ·have hke:k=L.length:=by omega
   subst hke;have hnlt:decide ((L.length:Int) < (L.length:Int))=false:=by simp
   go_wp2_with fail;go_ret;exact⟨rfl,HBL⟩
end Go.Proofs.Ytheiblbhlmaphaa
