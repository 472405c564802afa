/- Parts. -/
import Derived.Test.YtacgbldlonoaaaaGreatDoorRw12
import Derived.Test.YtacgbldlonoaaaaGreatDoorRw22
namespace Go.Proofs.YtacgbldlonoaaaaGreatDoor
open Go.Proofs.Tryz
open Go.RowKit
open Mth
variable (a:Option Addr) (cap:Nat) {n:Nd} {w:World} {α:Type} {l:List α} {no:Int} {i sz g cp:Nat} {enc:α->List Value} {t:TypeId} {o:fP} {v:Value}
namespace Mth
theorem ER {p:α->Bool} {f:α->Int} (h:iB p (λs t=>iQ (f s) (f t)) l=true):l.Pairwise (λs t=>f s < f t):=by
 have:=((um (p:=p) (r:=λs t=>iQ (f s) (f t)) (λa b c h1 h2=>nY _ _ _ h1 h2)).1 h).2;exact this.imp (λh=>Adc)
def setPu (n:Nd) (l:List Pu):Nd:=⟨n.id,n.par,n.kids,n.next,l,n.out,n.seen,n.old,n.reqs⟩
def setOut (n:Nd) (l:List lJ):Nd:=⟨n.id,n.par,n.kids,n.next,n.pu,l,n.seen,n.old,n.reqs⟩
def dA (n:Nd) (l:List Sn):Nd:=⟨n.id,n.par,n.kids,n.next,n.pu,n.out,l,n.old,n.reqs⟩
def eH (n:Nd) (l:List Rq):Nd:=⟨n.id,n.par,n.kids,n.next,n.pu,n.out,n.seen,n.old,l⟩
def nJ (n:Nd) (x:Int):Nd:=⟨n.id,n.par,n.kids,n.next,n.pu,n.out,n.seen,x,n.reqs⟩
def aeK (n:Nd) (x:Int):Nd:=⟨n.id,n.par,n.kids,x,n.pu,n.out,n.seen,n.old,n.reqs⟩
def qc (n:Nd) (key:ByteArray) (most:Int):Int:=if (aG n.pu key).f < most then(aG n.pu key).f else most
def Qr (n:Nd) (tY:Int):Bool:=decide (1<=tY/\n.out.length < 40/\n.next < 1000000000)
def rH (n:Nd) (dst:Int) (key:ByteArray) (tY:Int):Nd:=⟨n.id,n.par,n.kids,n.next+1,(dJ n.pu key 0 (-1) 0 tY).1,n.out++[⟨n.next,dst,key,tY⟩],n.seen,n.old,n.reqs⟩
def fG (n:Nd) (dst:Int) (key:ByteArray) (most:Int):Nd×List Mg×Bool:=
 if Qr n (qc n key most)=true then(rH n dst key (qc n key most),[pU (rH n dst key (qc n key most)) ⟨n.next,dst,key,qc n key most⟩],true) else(n,[],false)
def dZ (l:List Rq) (no:Int):Nat:=(l.takeWhile (λr=>decide (r.no < no))).length
def oq (l:List Rq) (no:Int):Bool:=(l[dZ l no]?).elim false (λr=>decide (r.no=no))
def uH (l:List Rq) (q:Rq):List Rq:=l.take (dZ l q.no)++q::l.drop (dZ l q.no)
def nA (n:Nd) (q:Rq):Nd:=if 30 < (uH n.reqs q).length then eH (nJ n ((uH n.reqs q).headD default).no) (uH n.reqs q).tail else eH n (uH n.reqs q)
def Gb (r:Rq) (key:ByteArray) (a:Int):Bool:=decide (r.s=0)&&(r.k.toList == key.toList)&&decide (r.n=a)
def gJ (n:Nd) (no:Int) (key:ByteArray) (a:Int):Nd×Int:=
 if no<=n.old then(n,2)
 else if oq n.reqs no=true then(n,if Gb (n.reqs.getD (dZ n.reqs no) default) key a=true then 0 else 1)
 else(nA (setPu n (dJ n.pu key 0 (-1) 1 a).1) ⟨no,key,a,if (dJ n.pu key 0 (-1) 1 a).2=true then 0 else 1⟩,if (dJ n.pu key 0 (-1) 1 a).2=true then 0 else 1)
def qj (r:Rq):Rq:=⟨r.no,r.k,r.n,2⟩
def bn (n:Nd) (no:Int):Nd×Int:=
 if no<=n.old then(n,2)
 else if oq n.reqs no=false then(n,1)
 else if (n.reqs.getD (dZ n.reqs no) default).s=1 then(n,1)
 else if (n.reqs.getD (dZ n.reqs no) default).s=2 then(n,0)
 else if (dJ n.pu (n.reqs.getD (dZ n.reqs no) default).k 0 1 (-1) (n.reqs.getD (dZ n.reqs no) default).n).2=true then
  (eH (setPu n (dJ n.pu (n.reqs.getD (dZ n.reqs no) default).k 0 1 (-1) (n.reqs.getD (dZ n.reqs no) default).n).1) (n.reqs.set (dZ n.reqs no) (qj (n.reqs.getD (dZ n.reqs no) default))),0)
 else(n,1)
def iG (l:List Sn) (f:Int):Nat:=l.findIdx (λs=>decide (s.f=f))
def eZ (s:Sn) (low:Int):Int:=if s.l < low then low else s.l
def bg (s:Sn) (low:Int):List Int:=s.ids.filter (λx=>decide (eZ s low<=x))
def sQ (s:Sn) (low i:Int):Bool:=decide (i < eZ s low)||hasB (bg s low) i
def mQ (l:List Int) (x:Int):List Int:=l.takeWhile (λy=>decide (y < x))++x::l.dropWhile (λy=>decide (y < x))
def WJ (n:Nd) (m:Mg):Mg:=⟨2,n.id,m.F,m.I,0,ByteArray.empty,0⟩
def mY (n:Nd) (s:Sn) (m:Mg):Bool:=(dJ n.pu m.k 0 1 0 m.N).2&&decide ((bg s m.L).length < 40)
def takeN (n:Nd) (m:Mg):Nd×Bool:=
 if sQ (n.seen.getD (iG n.seen m.F) default) m.L m.I=true then
  (dA n (n.seen.set (iG n.seen m.F) ⟨m.F,eZ (n.seen.getD (iG n.seen m.F) default) m.L,bg (n.seen.getD (iG n.seen m.F) default) m.L⟩),true)
 else if mY n (n.seen.getD (iG n.seen m.F) default) m=true then
  (dA (setPu n (dJ n.pu m.k 0 1 0 m.N).1) (n.seen.set (iG n.seen m.F) ⟨m.F,eZ (n.seen.getD (iG n.seen m.F) default) m.L,mQ (bg (n.seen.getD (iG n.seen m.F) default) m.L) m.I⟩),true)
 else(dA n (n.seen.set (iG n.seen m.F) ⟨m.F,eZ (n.seen.getD (iG n.seen m.F) default) m.L,bg (n.seen.getD (iG n.seen m.F) default) m.L⟩),false)
def jk (m:Mg) (s:lJ):Bool:=decide (s.i=m.I/\s.t=m.F)
def gK (n:Nd) (m:Mg):Nd×List Mg×Int:=
 if m.K=1 then((takeN n m).1,if (takeN n m).2=true then[WJ n m] else[],if (takeN n m).2=true then 0 else 1)
 else if m.K=2 then(setOut n (n.out.filter (λs=> !jk m s)),[],0)
 else if hasB n.kids m.F=true then((fG n m.F m.k m.N).1,(fG n m.F m.k m.N).2.1,0)
 else(n,[],1)
def Kz (n:Nd) (o:fP):Mg:=⟨0,n.id,n.par,0,0,o.k,o.n⟩
def fQ (n:Nd) (o:fP):Nd×List Mg×Int:=
 if o.K=0 then(if n.par= -1/\(dJ n.pu o.k 1 1 0 o.n).2=true then(setPu n (dJ n.pu o.k 1 1 0 o.n).1,[],0) else(n,[],1))
 else if o.K=1 then((gJ n o.no o.k o.n).1,[],(gJ n o.no o.k o.n).2)
 else if o.K=2 then((bn n o.no).1,[],(bn n o.no).2)
 else if o.K=3 then(if n.par= -1 then(n,[],1) else(n,[Kz n o],0))
 else if o.K=4 then(if n.par= -1 then(n,[],1) else((fG n n.par o.k o.n).1,(fG n n.par o.k o.n).2.1,if (fG n n.par o.k o.n).2.2=true then 0 else 1))
 else if o.K=5 then(n,n.out.map (pU n),0)
 else gK n o.m
def xO (n:Nd) (o:fP):Bool:= !decide (o.K=6)||(decide (o.m.T=n.id)&&dV n o.m.F)
def nQ (n:Nd) (o:fP):Nd×List Mg×Int:=if bq o&&xO n o then fQ n o else(n,[],3)
def O3 (n:Nd) (o:fP):Nd×List Mg×Int:=if dY n then nQ n o else(n,[],3)
theorem Em (h:dY n=false):O3 n o=(n,[],3):=by unfold O3;rw [h];rfl
theorem Lf (h:dY n=true):O3 n o=nQ n o:=by unfold O3;rw [h];rfl
theorem cZ (h:dY n=true):dH n=true/\jo n.pu=true/\pJ n=true/\fV n.next=true/\sZ n=true/\iy n=true:=by
 unfold dY at h;simp only[Bool.and_eq_true] at h;exact⟨h.1.1.1.1.1,h.1.1.1.1.2,h.1.1.1.2,h.1.1.2,h.1.2,h.2⟩
theorem jl (h:iy n=true):n.reqs.Pairwise (λs t=>s.no < t.no)/\n.reqs.length<=30/\(∀q∈n.reqs,tH n q=true)/\0<=n.old/\n.old<=1000000000:=by
 unfold iy at h;simp only[Bool.and_eq_true,decide_eq_true_eq] at h;obtain⟨⟨h1,h2⟩,h3⟩:=h;have h1':0<=n.old/\n.old<=1000000000:=by simpa [ru] using h1
 exact⟨ER (f:=λr:Rq=>r.no) h3,h2,zB h3,h1'.1,h1'.2⟩
theorem tq (h:sZ n=true):n.out.Pairwise (λs t=>s.i < t.i)/\n.out.length<=40/\(∀q∈n.out,vN n q=true):=by
 unfold sZ at h;simp only[Bool.and_eq_true,decide_eq_true_eq] at h;exact⟨ER (f:=λr:lJ=>r.i) h.2,h.1,zB h.2⟩
theorem kK {q:Rq} (h:tH n q=true):n.old+1<=q.no/\q.no<=1000000000/\keyOk q.k.data.toList=true/\fV q.n=true/\0<=q.s/\q.s<=2:=by
 unfold tH at h;simp only[Bool.and_eq_true,decide_eq_true_eq] at h;exact⟨h.1.1.1.1,h.1.1.1.2,h.1.1.2,h.1.2,h.2.1,h.2.2⟩
theorem wV (l:List Rq) (no:Int):dZ l no<=l.length:=by
 unfold dZ;exact(List.takeWhile_sublist _).length_le
theorem yN (l:List Rq) (no:Int):∀i (hi:i < l.length),i < dZ l no->l[i].no < no:=by
 induction l with
 |nil=>intro i hi;simp at hi
 |cons x l ih=>
  intro i hi h
  by_cases hx:x.no < no
  .cases i with
   |zero=>exact hx
   |succ i=>
    refine ih i Aaq ?_
    unfold dZ at h ⊢
    rw [List.takeWhile_cons_of_pos Aag] at h
    simpa using h
  .unfold dZ at h;rw [List.takeWhile_cons_of_neg Aag] at h;simp at h
theorem yM {l:List Rq} (hp:l.Pairwise (λs t=>s.no < t.no)):∀i (hi:i < l.length),dZ l no<=i->no<=l[i].no:=by
 induction l with
 |nil=>intro i hi;simp at hi
 |cons x l ih=>
  intro i hi h
  have hp':=List.pairwise_cons.1 hp
  by_cases hx:x.no < no
  .unfold dZ at h;rw [List.takeWhile_cons_of_pos Aag] at h;simp only[List.length_cons] at h;cases i with
   |zero=>omega
   |succ i=>exact ih hp'.2 i Aaq (by unfold dZ;omega)
  .cases i with
   |zero=>show no<=x.no;omega
   |succ i=>
    have hi':i < l.length:=Aaq
    have:=hp'.1 l[i] (List.getElem_mem hi')
    show no<=l[i].no
    omega
theorem MF {l:List Rq} (hp:l.Pairwise (λs t=>s.no < t.no)) (hi:i<=l.length) (h1:∀j (hj:j < l.length),j < i->l[j].no < no) (h2:∀j (hj:j < l.length),i<=j->no<=l[j].no):dZ l no=i:=by
 have hle:=wV l no;rcases Nat.lt_trichotomy (dZ l no) i with h|h|h
 .have a:=h1 (dZ l no) Aaa h;have b:=yM (no:=no) hp (dZ l no) Aaa (Nat.le_refl _);omega
 .exact h
 .have a:=h2 i Aaa (Nat.le_refl _);have b:=yN l no i Aaa h;omega
theorem pE (l:List Rq) (no:Int):oq l no=true↔∃h:dZ l no < l.length,l[dZ l no].no=no:=by
 unfold oq;by_cases h:dZ l no < l.length
 .rw [List.getElem?_eq_getElem h];simp[h]
 .rw [List.getElem?_eq_none Aaa];simp[h]
theorem Qy {l:List Rq} (hp:l.Pairwise (λs t=>s.no < t.no)) (hi:i < l.length) (h:l[i].no=no):dZ l no=i/\oq l no=true:=by
 have e:dZ l no=i:=by
  refine MF hp Aaa (λj hj hlt=>?_) (λj hj hle=>?_)
  .have:=List.pairwise_iff_getElem.1 hp j i hj hi hlt;omega
  .rcases Nat.lt_or_ge i j with hlt|hge
   .have:=List.pairwise_iff_getElem.1 hp i j hi hj hlt;omega
   .have e:j=i:=Aaa
    subst e;omega
 refine⟨e,(pE l no).2 ⟨Aaa,?_⟩⟩;subst h;simp[e]
theorem Yg {l:List Rq} (h:∀q∈l,q.no≠no):oq l no=false:=by
 rw [Bool.eq_false_iff];intro hf;obtain⟨hi,e⟩:=(pE l no).1 hf;exact h _ (List.getElem_mem hi) e
theorem aeE {l:List Pu} {key:ByteArray} {a:Int} (h:jo l=true) (hk:keyOk key.data.toList=true) (h1:1<=a) (h2:a<=(aG l key).f) (h3:a<=1000000000):(dJ l key 0 (-1) 0 a).2=true:=by
 rw [KW h ⟨h1,h3⟩];have hp:=yJ h hk;have hk':=qy l key
 have hfd:found l key=true:=by
  cases hf:found l key with
  |true=>rfl
  |false=>
   exfalso
   obtain⟨_,hpw,_⟩:=(kJ l).1 h
   have:aG l key=⟨key,0,0,0⟩:=by
    refine Mw (λq hq e=>?_);have hq2:=rJ hpw hq;rw [e] at hq2;have hx:=OU l key;rw [hf] at hx;have hx:=of_decide_eq_false hx;obtain⟨i,hi,rfl⟩:=List.mem_iff_getElem.1 hq;apply hx
    have hle:=nG l key;by_cases hpl:place l key < l.length
    .refine⟨hpl,?_⟩;have hnl:=BX l key l[place l key] (l.drop (place l key+1)) (by rw [jS,List.drop_eq_getElem_cons hpl]);have hka:vZ l key (place l key)=l[place l key].k:=by unfold vZ;rw [List.getElem?_eq_getElem hpl];rfl
     rw [hka];rcases Nat.lt_trichotomy (place l key) i with hlt|heq|hgt
     .have:=List.pairwise_iff_getElem.1 hpw _ _ hpl hi hlt;have h4:l[place l key].k.toList < l[i].k.toList:=this;rw [e] at h4;exact absurd h4 hnl
     .subst heq;exact e
     .exact axM
    .exact axM
   rw [this] at h2
   dsimp only at h2
   omega
 have hlen:(jq l (eX (aG l key) 0 (-1) 0 a)).length<=20:=by
  have e:(eX (aG l key) 0 (-1) 0 a).k=key:=hk';rw [tC (by rw [e];exact hfd)];exact((kJ l).1 h).2.2
 have hok:gX (eX (aG l key) 0 (-1) 0 a)=true:=by
  unfold gX ru at hp ⊢;unfold eX;simp only[Bool.and_eq_true,decide_eq_true_eq] at hp ⊢;refine⟨⟨⟨⟨hp.1.1.1.1,?_⟩,?_⟩,?_⟩,?_⟩<;>omega
 rw [hok,decide_eq_true hlen];rfl
end Mth
set_option maxHeartbeats 1000000
set_option maxRecDepth 100000
theorem VI {α:Type} {enc:α->List Value} {sz:Nat} (hs:∀x,(enc x).length=sz) (hz:0 < sz) {w:World} {x:Addr} {l:List α} (h:GR.At enc sz w (some x) l):∀j u,(GR.flat enc l)[j]?=some u->w.cell? (x.add j)=some u:=by
 intro j u hu
 have hj:j < l.length*sz:=by
  have:=(List.getElem?_eq_some_iff.1 hu).1;rwa [GR.flat_length enc sz hs] at this
 have hi:j / sz < l.length:=Nat.div_lt_of_lt_mul (by rw [Nat.mul_comm];exact hj);have hr:j % sz < sz:=Nat.mod_lt _ hz;have ej:j / sz*sz+j % sz=j:=by rw [Nat.mul_comm];exact Nat.div_add_mod j sz
 obtain⟨g,off,e,hg,hc⟩:=h (j / sz) hi;have hf:=GR.flat_at enc sz hs l (j / sz) hi (j % sz) hr;rw [ej] at hf;have h2:=hc (j % sz) hr;rw [ej,<-hf,hu] at h2;injection e with e
 subst e;rw [Addr.add_lit];exact h2
theorem CV (l:List lJ):∀u∈GR.flat aW l,u.oneCell'=true:=by
 intro u hu;unfold GR.flat at hu;rw [List.mem_flatMap] at hu;obtain⟨p,_,hp⟩:=hu;simp only[aW,List.mem_cons,List.not_mem_nil,or_false] at hp;rcases hp with rfl|rfl|rfl|rfl<;>rfl
theorem Ai {α:Type} {enc:α->List Value} {sz:Nat} {w:World} {B:Nat} {t:TypeId} {a:Option Addr} {cp:Nat} {l:List α} (h:w.ownsRow B t sz (.slice a l.length cp) l.length (GR.flat enc l)) (hl:0 < l.length):∃g rest,a=some ⟨g,0,none⟩/\B<=g/\w.heap[g]?=some (.cells (GR.flat enc l++rest).toArray t (0,0)):=by
 rcases h.2 with⟨_,hy⟩|⟨g,cp',cur,hx,hbg,hgg,hnc,hcm,hcs,htk⟩
 .omega
 simp only[Value.slice.injEq] at hx;obtain⟨rfl,_,rfl⟩:=hx;refine⟨g,cur.toList.drop (l.length*sz),rfl,hbg,?_⟩;rw [<-htk,List.take_append_drop,Array.toArray_toList];exact hgg
theorem FY {α:Type} {enc:α->List Value} {sz:Nat} (hs:∀x,(enc x).length=sz) {w:World} {g:Nat} {l:List α} {t:TypeId} {rest:List Value} (h:w.heap[g]?=some (.cells (GR.flat enc l++rest).toArray t (0,0))) (i:Nat) (hi:i < l.length) (j:Nat) (hj:j < sz):w.cell? ⟨g,i*sz+j,none⟩=(enc l[i])[j]?:=by
 have hlt:i*sz+j < (GR.flat enc l).length:=by
  rw [GR.flat_length enc sz hs];have:(i+1)*sz<=l.length*sz:=Nat.mul_le_mul_right sz hi;exact aaQ
 rw [cell_of_row w g _ _ t (0,0) h,List.getElem?_toArray,List.getElem?_append_left hlt];exact GR.flat_at enc sz hs l i hi j hj
theorem EU {cs:Array Value} {fr:Nat×Nat} (h:w.heap[g]?=some (.cells cs t fr)) (hc:w.cell? ⟨g,i,none⟩=some v):Below w.heap.size w (w.setCell ⟨g,i,none⟩ v):=by
 refine⟨rfl,rfl,rfl,Aas,λk hk=>?_⟩;by_cases e:k=g
 .subst e;have h1:w.cell? ⟨k,i,none⟩=cs[i]?:=cell_of_row w k i cs t fr h;rw [hc] at h1;unfold World.setCell;simp only[Array.getElem?_modify];rw [if_pos trivial,h]
  have h2:cs.setIfInBounds i v=cs:=by
   apply Array.ext_getElem?
   intro q;rw [Array.getElem?_setIfInBounds];split
   .rename_i e
    subst e;split
    .exact h1
    .rw [Array.getElem?_eq_none Aaa]
   .rfl
  simp[h2]
 .exact Below.heap_setCell _ _ _ _ e
theorem aa0 (l:List lJ) (w:World) (hl:l.length<=1048600) (hv:∀u∈GR.flat aW l,u.oneCell'=true) (ha:GR.At aW 4 w a l):
 Calls Tryz.prog 101 #[.slice a l.length cap] w λe w'=>∃v,e= .returned v/\w'.ownsRow w.heap.size 95 4 v l.length (GR.flat aW l)/\aY w w':=by
 obtain⟨i0,hi,hz0,hz1,hz2⟩:=info_parts PN;have q22:∀(w:World) (a:Option Addr) (n c n' c':Nat),(binOp .eql 26 (.slice a n c) (.slice none n' c')).run Tryz.prog w= .ok (.bool a.isNone) w:=λw a n c n' c'=>Lib.run_eql_slice_nil w _ _ a n c n' c' Tryz.underlying26
 have hlit:(w.alloc (.cells #[] 95)).ownsRow w.heap.size 95 4 (.slice (some ⟨w.heap.size,0,none⟩) 0 0) 0 []:=World.ownsRow_lit (base:=w.heap.size) (e:=95) (size:=4) w #[] 0 (Nat.le_refl _) Aae rfl;cases a with
 |none=>
  have hl0:l=[]:=GR.none_nil ha
  subst hl0
  clear ha hlit hv
  go_in
  go_wp2_with fail
  go_ret
  exact⟨_,rfl,World.ownsRow_nil _ _ _ _,Below.refl _ _⟩
 |some x=>
  have HN:=Hq (VI eu Aaa (GR.At.below ha (au w (.cells #[] 95))))
  have HV:=Hq hv
  clear ha hv
  go_in
  go_wp2_with (at_builtin;refine wpList_append_own _ rfl _ _ 26 rfl w.heap.size 95 i0 (.agg (fI 0 0 ByteArray.empty 0)) 4 40 Tryz.underlying26 hi hz0 hz1 hz2 rfl Aae _ 0 [] rfl hlit x l.length cap (GR.flat aW l) rfl ?c0 ?c1 ?c2 ?c3 ?c4 ?c5 ?_)
  case c0=>exact GR.flat_length aW 4 eu l
  case c1=>exact HN
  case c2=>exact HV
  case c3=>unfold maxLen;omega
  case c4=>omega
  case c5=>simp
  intro v' w1 hown' hgrow _
  have HO:=Hq (show w1.ownsRow w.heap.size 95 4 v' l.length (GR.flat aW l) by simpa using hown')
  have hb:aY w w1:=(au w _).grown hgrow Aac (λk hk=>Abp)
  clear hown' hgrow hlit
  go_wp2
  go_ret
  exact⟨_,rfl,HO,hb⟩
theorem adY (l:List Rq) (w:World) (hl:l.length<=1048600) (hv:∀u∈GR.flat aN l,u.oneCell'=true) (ha:GR.At aN 4 w a l):
 Calls Tryz.prog 104 #[.slice a l.length cap] w λe w'=>∃v,e= .returned v/\w'.ownsRow w.heap.size 97 4 v l.length (GR.flat aN l)/\aY w w':=by
 obtain⟨i0,hi,hz0,hz1,hz2⟩:=info_parts wS;have q22:∀(w:World) (a:Option Addr) (n c n' c':Nat),(binOp .eql 28 (.slice a n c) (.slice none n' c')).run Tryz.prog w= .ok (.bool a.isNone) w:=λw a n c n' c'=>Lib.run_eql_slice_nil w _ _ a n c n' c' Tryz.underlying28
 have hlit:(w.alloc (.cells #[] 97)).ownsRow w.heap.size 97 4 (.slice (some ⟨w.heap.size,0,none⟩) 0 0) 0 []:=World.ownsRow_lit (base:=w.heap.size) (e:=97) (size:=4) w #[] 0 (Nat.le_refl _) Aae rfl;cases a with
 |none=>
  have hl0:l=[]:=GR.none_nil ha
  subst hl0
  clear ha hlit hv
  go_in
  go_wp2_with fail
  go_ret
  exact⟨_,rfl,World.ownsRow_nil _ _ _ _,Below.refl _ _⟩
 |some x=>
  have HN:=Hq (VI bX Aaa (GR.At.below ha (au w (.cells #[] 97))))
  have HV:=Hq hv
  clear ha hv
  go_in
  go_wp2_with (at_builtin;refine wpList_append_own _ rfl _ _ 28 rfl w.heap.size 97 i0 (.agg (eG 0 ByteArray.empty 0 0)) 4 40 Tryz.underlying28 hi hz0 hz1 hz2 rfl Aae _ 0 [] rfl hlit x l.length cap (GR.flat aN l) rfl ?c0 ?c1 ?c2 ?c3 ?c4 ?c5 ?_)
  case c0=>exact GR.flat_length aN 4 bX l
  case c1=>exact HN
  case c2=>exact HV
  case c3=>unfold maxLen;omega
  case c4=>omega
  case c5=>simp
  intro v' w1 hown' hgrow _
  have HO:=Hq (show w1.ownsRow w.heap.size 97 4 v' l.length (GR.flat aN l) by simpa using hown')
  have hb:aY w w1:=(au w _).grown hgrow Aac (λk hk=>Abp)
  clear hown' hgrow hlit
  go_wp2
  go_ret
  exact⟨_,rfl,HO,hb⟩
theorem adX (l:List R3) (w:World) (hl:l.length<=1048600) (hv:∀u∈GR.flat eP l,u.oneCell'=true) (ha:GR.At eP 3 w a l):
 Calls Tryz.prog 103 #[.slice a l.length cap] w λe w'=>∃v,e= .returned v/\w'.ownsRow w.heap.size 90 3 v l.length (GR.flat eP l)/\aY w w':=by
 obtain⟨i0,hi,hz0,hz1,hz2⟩:=info_parts FJ;have q22:∀(w:World) (a:Option Addr) (n c n' c':Nat),(binOp .eql 27 (.slice a n c) (.slice none n' c')).run Tryz.prog w= .ok (.bool a.isNone) w:=λw a n c n' c'=>Lib.run_eql_slice_nil w _ _ a n c n' c' Tryz.underlying27
 have hlit:(w.alloc (.cells #[] 90)).ownsRow w.heap.size 90 3 (.slice (some ⟨w.heap.size,0,none⟩) 0 0) 0 []:=World.ownsRow_lit (base:=w.heap.size) (e:=90) (size:=3) w #[] 0 (Nat.le_refl _) Aae rfl;cases a with
 |none=>
  have hl0:l=[]:=GR.none_nil ha
  subst hl0
  clear ha hlit hv
  go_in
  go_wp2_with fail
  go_ret
  exact⟨_,rfl,World.ownsRow_nil _ _ _ _,Below.refl _ _⟩
 |some x=>
  have HN:=Hq (VI eF Aaa (GR.At.below ha (au w (.cells #[] 90))))
  have HV:=Hq hv
  clear ha hv
  go_in
  go_wp2_with (at_builtin;refine wpList_append_own _ rfl _ _ 27 rfl w.heap.size 90 i0 (.agg #[.int .i64 0,.int .i64 0,.slice none 0 0]) 3 40 Tryz.underlying27 hi hz0 hz1 hz2 rfl Aae _ 0 [] rfl hlit x l.length cap (GR.flat eP l) rfl ?c0 ?c1 ?c2 ?c3 ?c4 ?c5 ?_)
  case c0=>exact GR.flat_length eP 3 eF l
  case c1=>exact HN
  case c2=>exact HV
  case c3=>unfold maxLen;omega
  case c4=>omega
  case c5=>simp
  intro v' w1 hown' hgrow _
  have HO:=Hq (show w1.ownsRow w.heap.size 90 3 v' l.length (GR.flat eP l) by simpa using hown')
  have hb:aY w w1:=(au w _).grown hgrow Aac (λk hk=>Abp)
  clear hown' hgrow hlit
  go_wp2
  go_ret
  exact⟨_,rfl,HO,hb⟩
theorem acN {a:Option Addr} {l:List Sn} (h:mW w a l):∃T:List R3,T.length=l.length/\GR.At eP 3 w a T/\(∀u∈GR.flat eP T,u.oneCell'=true)/\∀i (hi:i < l.length),∃b c,T[i]?=some ⟨l[i].f,l[i].l,.slice b l[i].ids.length c⟩/\dX w b l[i].ids:=by
 have hk:∀k,k<=l.length->∃T:List R3,T.length=k/\(∀i (hi:i < T.length) (hl:i < l.length),∃b c,T[i]=⟨l[i].f,l[i].l,.slice b l[i].ids.length c⟩/\dX w b l[i].ids/\∃g off,a=some ⟨g,off,none⟩/\g < w.heap.size/\w.cell? ⟨g,off+i*3,none⟩=some (.int .i64 l[i].f)/\w.cell? ⟨g,off+i*3+1,none⟩=some (.int .i64 l[i].l)/\w.cell? ⟨g,off+i*3+2,none⟩=some (.slice b l[i].ids.length c)):=by
  intro k;induction k with
  |zero=>intro _;exact⟨[],rfl,λi hi=>Aav⟩
  |succ k ih=>
   intro hk
   obtain⟨T,hT,hr⟩:=ih Aaa
   obtain⟨g,off,b,c,e,hg,h0,h1,h2,h3⟩:=h k Aaa
   refine⟨T++[⟨l[k].f,l[k].l,.slice b l[k].ids.length c⟩],by simp[hT],λi hi hl=>?_⟩
   by_cases hik:i < T.length
   .rw [List.getElem_append_left hik];exact hr i hik hl
   .have hi':i=k:=Abt
    subst hi';refine⟨b,c,?_,h3,g,off,e,hg,h0,h1,h2⟩;rw [List.getElem_append_right Aaa];simp[hT]
 obtain⟨T,hT,hr⟩:=hk l.length (Nat.le_refl _);refine⟨T,hT,λi hi=>?_,λu hu=>?_,λi hi=>?_⟩
 .obtain⟨b,c,e,_,g,off,ea,hg,h0,h1,h2⟩:=hr i hi Aaa;refine⟨g,off,ea,hg,λj hj=>?_⟩;rw [e];match j,hj with
  |0,_=>exact h0
  |1,_=>rw [<-Nat.add_assoc];exact h1
  |2,_=>rw [<-Nat.add_assoc];exact h2
 .unfold GR.flat at hu;rw [List.mem_flatMap] at hu;obtain⟨p,hp,hq⟩:=hu;obtain⟨i,hi,rfl⟩:=List.mem_iff_getElem.1 hp;obtain⟨b,c,e,_⟩:=hr i hi Aaa;rw [e] at hq;simp only[eP,List.mem_cons,List.not_mem_nil,or_false] at hq;rcases hq with rfl|rfl|rfl<;>rfl
 .obtain⟨b,c,e,hI,_⟩:=hr i Aaa hi;exact⟨b,c,by rw [List.getElem?_eq_getElem Aaa,e],hI⟩
theorem WK.setPu {w0 w':World} {wb:Nat} {A:bC} {G:bJ} {c:Nat->Nat} {L:List Mg} {a:Option Addr} {l:List Pu} (h:WK w0 w wb n A G c v L) (hb:aY w w') (hw:GR.W fH 4 w' a g l) (hg:∀x∈fp g l,w.heap.size<=x):
 WK w0 (w'.setCell ⟨wb,4,none⟩ (.slice a l.length cp)) wb (setPu n l) ⟨A.k,a,A.o,A.s,A.r,A.ck,cp,A.co,A.cs,A.cr⟩ ⟨G.k,g,G.o,G.s,G.r,G.i⟩ (newC w.heap.size 2 c) v L:=by
 have hwb:=aA h.blk;have h1:=(h.recol (c':=newC w.heap.size 2 c) (λx hx=>eT hx)).step hb;have hk:KC (newC w.heap.size 2 c) 8 w' (w'.setCell ⟨wb,4,none⟩ (.slice a l.length cp)):=KC.set h1.cw;have h2:=h1.no.kc hk Aaa;have hcp:∀x∈fp g l,newC w.heap.size 2 c x=2:=λx hx=>aZ (hg x hx)
 refine⟨hk.below h1.keep h1.no.lo Aaa h1.keep.size,?_,⟨h2.k,hk.w hw hcp (show(2:Nat)≠8 by omega),h2.o,h2.s,h2.r,h2.lo,h2.ck,hcp,h2.co,h2.c4,h2.ci,h2.cr,h2.ni⟩,hk.own h1.m h1.cm Aaa,h1.cm,h1.cw⟩;exact aT h1.blk 4 (.slice a l.length cp)
end Go.Proofs.YtacgbldlonoaaaaGreatDoor

