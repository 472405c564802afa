/- Parts. -/
import Derived.Test.YtohmklmkjmlpjaaGreatDoorRc23
import Derived.Test.YtohmklmkjmlpjaaGreatDoorRc18
import Derived.Test.YtohmklmkjmlpjaaGreatDoorRc13
namespace Go.Proofs.YtohmklmkjmlpjaaGreatDoor
open Go.Proofs.Tryz
set_option maxHeartbeats 1000000
open Go.RowKit
open Mth
variable {c I c':Nat->Nat} {k B g sz x wb i j gk gs Bo Br B':Nat} {n:Nd} {A:bV} {w' w0 X:World} {G:aR} {a b:Option Addr} {v:Value} {α:Type} {enc:α->List Value} {l:List α} {L:List Mg} {ids:List Int} {e t:TypeId} {xs:List Value} {F:List Nat}
structure KC (c:Nat->Nat) (k:Nat) (w w':World):Prop where
 os:w'.os=w.os
 tape:w'.tape=w.tape
 output:w'.output=w.output
 size:w.heap.size<=w'.heap.size
 block:∀x,x < w.heap.size->c x≠k->w'.heap[x]?=w.heap[x]?
theorem KC.of_below {w:World} (h:aI w w'):KC c k w w':=⟨h.os,h.tape,h.output,h.size,λx hx _=>h.block x hx⟩
theorem KC.trans {a b d:World} (h:KC c k a b) (h':KC c k b d):KC c k a d:=
 ⟨h'.os.trans h.os,h'.tape.trans h.tape,h'.output.trans h.output,aGm h.size h'.size,λx hx hc=>(h'.block x (aGq hx h.size) hc).trans (h.block x hx hc)⟩
theorem KC.set {w:World} (hc:c g=k):KC c k w (w.setCell ⟨g,i,none⟩ v):=
 ⟨rfl,rfl,rfl,Aaq,λx _ hx=>aGx _ _ _ _ (λe=>hx (by rw [e];exact hc))⟩
theorem KC.keeps {w:World} (h:aC F w w') (hF:∀x∈F,c x=k):KC c k w w':=⟨h.os,h.tape,h.output,h.size,λx hx hc=>h.block x hx (λhm=>hc (hF x hm))⟩
theorem KC.grown {row:Option Nat} {w:World} (h:w.grownBy w' row) (hF:∀x,row=some x->c x=k):KC c k w w':=⟨h.os,h.tape,h.output,h.size,λx hx hc=>h.block x hx (λhm=>hc (hF x hm.symm))⟩
theorem KC.below {a w:World} (hb:Below B a w) (h:KC c k w w') (hlo:∀x,x < B->c x=0) (hk:k≠0) (hB:B<=w.heap.size):Below B a w':=
 ⟨h.os.trans hb.os,h.tape.trans hb.tape,h.output.trans hb.output,aGm hb.size h.size,λx hx=>(h.block x Aaa (by rw [hlo x hx];omega)).trans (hb.block x hx)⟩
theorem KC.obj {w:World} {o:Obj} (h:KC c k w w') (ho:w.heap[g]?=some o) (hg:c g≠k):w'.heap[g]?=some o:=by rw [h.block g (aA ho) hg];exact ho
theorem KC.w {α:Type} {enc:α->List Value} {sz:Nat} {c:Nat->Nat} {k j:Nat} {w w':World} {a:Option Addr} {g:Nat} {l:List α} (h:KC c k w w') (hw:GR.W enc sz w a g l) (hc:∀x∈fp g l,c x=j) (hj:j≠k):GR.W enc sz w' a g l:=λi hi=>by
 obtain⟨e,hg,hcell⟩:=hw i hi;have hb:=h.block g hg (by rw [hc g (dX Aaa)];exact hj);exact⟨e,aGq hg h.size,λq hq=>⟨(aG0 (w:=w) hb).trans (hcell q hq).1,(aH5 (w:=w) hb).trans (hcell q hq).2⟩⟩
theorem KC.own {w:World} {n:Nat} (h:KC c k w w') (ho:w.ownsRow B e sz v n xs) (hc:∀x,v.ownBlock=some x->c x=j) (hj:j≠k):w'.ownsRow B e sz v n xs:=by
 refine⟨ho.1,?_⟩;rcases ho.2 with hn|⟨g,cap,cur,rfl,hb,hgg,rest⟩
 .exact .inl hn
 .exact .inr ⟨g,cap,cur,rfl,hb,h.obj hgg (by rw [hc g rfl];exact hj),rest⟩
theorem KC.seen {w:World} {l:List Sn} (h:KC c k w w') (hs:eF w a g I l) (h4:∀x∈fp g l,c x=4) (h5:∀x∈nA I l,c x=5) (hk4:4≠k) (hk5:5≠k):eF w' a g I l:=by
 obtain⟨T,hT,hl,hr⟩:=hs;refine⟨T,h.w hT (λx hx=>h4 x ?_) hk4,hl,λi hi=>?_⟩
 .exact abw
 .obtain⟨b,d,ht,hi2⟩:=hr i hi;exact⟨b,d,ht,h.w hi2 (λx hx=>h5 x (jI hi x hx)) hk5⟩
structure NO (w:World) (B:Nat) (n:Nd) (A:bV) (G:aR) (c:Nat->Nat):Prop where
 k:GR.W aS 1 w A.k G.k n.kids
 p:GR.W fD 4 w A.p G.p n.pu
 o:w.ownsRow B 91 4 (.slice A.o n.out.length A.co) n.out.length (GR.flat aM n.out)
 s:eF w A.s G.s G.i n.seen
 r:w.ownsRow B 95 4 (.slice A.r n.reqs.length A.cr) n.reqs.length (GR.flat aJ n.reqs)
 lo:∀x,x < B->c x=0
 ck:∀x∈fp G.k n.kids,c x=1
 cp:∀x∈fp G.p n.pu,c x=2
 co:∀x,(Value.slice A.o n.out.length A.co).ownBlock=some x->c x=3
 c4:∀x∈fp G.s n.seen,c x=4
 ci:∀x∈nA G.i n.seen,c x=5
 cr:∀x,(Value.slice A.r n.reqs.length A.cr).ownBlock=some x->c x=6
 ni:(nA G.i n.seen).Nodup
theorem NO.kc {w:World} (h:NO w B n A G c) (hk:KC c k w w') (h7:6 < k):NO w' B n A G c:=
 ⟨hk.w h.k h.ck Aaa,hk.w h.p h.cp Aaa,hk.own h.o h.co Aaa,hk.seen h.s h.c4 h.ci Aaa Aaa,hk.own h.r h.cr Aaa,h.lo,h.ck,h.cp,h.co,h.c4,h.ci,h.cr,h.ni⟩
theorem uL {α:Type} {enc:α->List Value} {sz:Nat} {w:World} {a:Option Addr} {g:Nat} {l:List α} (h:GR.W enc sz w a g l):∀x∈fp g l,x < w.heap.size:=λx hx=>by
 have:=dQ hx;rw [this.1];exact(h 0 this.2).2.1
theorem vC {w:World} {l:List Sn} (h:eF w a g I l):(∀x∈fp g l,x < w.heap.size)/\∀x∈nA I l,x < w.heap.size:=by
 obtain⟨T,hT,hl,hr⟩:=h;refine⟨λx hx=>uL hT x ?_,λx hx=>?_⟩
 .exact abw
 .obtain⟨i,hi,rfl,hpos⟩:=qM hx;obtain⟨b,d,ht,hi2⟩:=hr i hi;exact uL hi2 _ (dX hpos)
theorem NO.recol {w:World} (h:NO w B n A G c) (hB:B<=w.heap.size) (hc:∀x,x < w.heap.size->c' x=c x):NO w B n A G c':=
 ⟨h.k,h.p,h.o,h.s,h.r,λx hx=>(hc x Aaa).trans (h.lo x hx),λx hx=>(hc x (uL h.k x hx)).trans (h.ck x hx),λx hx=>(hc x (uL h.p x hx)).trans (h.cp x hx),
  λx hx=>(hc x (h.o.lt x hx).2).trans (h.co x hx),λx hx=>(hc x ((vC h.s).1 x hx)).trans (h.c4 x hx),λx hx=>(hc x ((vC h.s).2 x hx)).trans (h.ci x hx),λx hx=>(hc x (h.r.lt x hx).2).trans (h.cr x hx),h.ni⟩
theorem NO.at {w:World} (h:NO w B n A G c):dD w A n:=by
 refine⟨h.k.at,h.p.at,?_,h.s.at,?_⟩
 .exact ajp
 .exact ajq
structure WK (w0 w:World) (wb:Nat) (n:Nd) (A:bV) (G:aR) (c:Nat->Nat) (v:Value) (L:List Mg):Prop where
 keep:aI w0 w
 blk:w.heap[wb]?=some (.cells (Xx n A v) 192 (0,0))
 no:NO w w0.heap.size n A G c
 m:w.ownsRow w0.heap.size 98 7 v L.length (GR.flat mE L)
 cm:∀x,v.ownBlock=some x->c x=7
 cw:c wb=8
theorem WK.kc {w:World} (h:WK w0 w wb n A G c v L) (hk:KC c k w w') (h8:8 < k):WK w0 w' wb n A G c v L:=
 ⟨hk.below h.keep h.no.lo Aaa h.keep.size,hk.obj h.blk (by rw [h.cw];omega),h.no.kc hk Aaa,hk.own h.m h.cm Aaa,h.cm,h.cw⟩
theorem WK.step {w:World} (h:WK w0 w wb n A G c v L) (hb:aI w w'):WK w0 w' wb n A G c v L:=h.kc (k:=9) (KC.of_below hb) Aaa
theorem WK.recol {w:World} (h:WK w0 w wb n A G c v L) (hc:∀x,x < w.heap.size->c' x=c x):WK w0 w wb n A G c' v L:=
 ⟨h.keep,h.blk,h.no.recol h.keep.size hc,h.m,λx hx=>(hc x (h.m.lt x hx).2).trans (h.cm x hx),(hc wb (aA h.blk)).trans h.cw⟩
theorem WK.lo {w:World} (h:WK w0 w wb n A G c v L):w0.heap.size<=wb:=by
 rcases aHa wb w0.heap.size with h'|h'
 .have:=h.no.lo wb h';rw [h.cw] at this;cases this
 .exact h'
def newC (B k:Nat) (c:Nat->Nat):Nat->Nat:=λx=>if B<=x then k else c x
theorem fE (h:x < B):newC B k c x=c x:=by unfold newC;rw [aGr Aaa]
theorem bQ (h:B<=x):newC B k c x=k:=by unfold newC;rw [aGC h]
theorem NO.kc0 {w:World} (h:NO w B n A G c) (hk:KC c 0 w w'):NO w' B n A G c:=
 ⟨hk.w h.k h.ck Aaa,hk.w h.p h.cp Aaa,hk.own h.o h.co Aaa,hk.seen h.s h.c4 h.ci Aaa Aaa,hk.own h.r h.cr Aaa,h.lo,h.ck,h.cp,h.co,h.c4,h.ci,h.cr,h.ni⟩
theorem qj (I:Nat->Nat) (l:List Sn):(nA I l).Nodup↔∀i j (hi:i < l.length) (hj:j < l.length),i < j->0 < l[i].ids.length->0 < l[j].ids.length->I i≠I j:=by
 have hg:∀i (hi:i < l.length),l.getD i default=l[i]:=λi hi=>by rw [aGK,aGo hi];rfl
 unfold nA List.Nodup;rw [List.pairwise_flatMap];constructor
 .rintro⟨_,h⟩ i j hi hj hij h1 h2 e;rw [aGZ] at h;have:=h i j Aao Aav hij;rw [List.getElem_range,List.getElem_range,hg i hi,hg j hj] at this;exact this (I i) (dX h1) (I j) (dX h2) e
 .intro h;refine⟨λi _=>jN _ _,?_⟩;rw [aGZ];intro i j hi hj hij x hx y hy;have hi':i < l.length:=Aao
  have hj':j < l.length:=Aav
  rw [List.getElem_range,hg i hi'] at hx;rw [List.getElem_range,hg j hj'] at hy;obtain⟨rfl,h1⟩:=dQ hx;obtain⟨rfl,h2⟩:=dQ hy;exact h i j hi' hj' hij h1 h2
theorem Fu (l:List Int):GR.flat aS l=l.map (Value.int .i64):=by
 induction l with
 |nil=>rfl
 |cons x l ih=>rw [GR.flat_cons,ih];rfl
theorem sK (q:Rq):∀u∈aJ q,u.oneCell'=true:=by
 intro u hu;simp only[aJ,aGF,aHx,or_false] at hu;rcases hu with rfl|rfl|rfl|rfl<;>rfl
theorem jq (l:List Rq):∀u∈GR.flat aJ l,u.oneCell'=true:=by
 intro u hu;unfold GR.flat at hu;obtain⟨q,_,hq⟩:=aHw.1 hu;exact sK q u hq
set_option maxRecDepth 100000
theorem Kt {α:Type} {enc:α->List Value} {sz:Nat} (hs:∀x,(enc x).length=sz) (hz:0 < sz) {w:World} {x:Addr} {l:List α} (h:GR.At enc sz w (some x) l):∀j u,(GR.flat enc l)[j]?=some u->w.cell? (x.add j)=some u:=by
 intro j u hu
 have hj:j < l.length*sz:=by
  have:=(aHe.1 hu).1;rwa [GR.flat_length enc sz hs] at this
 have hi:j / sz < l.length:=Nat.div_lt_of_lt_mul (by rw [aIj];exact hj);have hr:j % sz < sz:=Nat.mod_lt _ hz;have ej:j / sz*sz+j % sz=j:=by rw [aIj];exact Nat.div_add_mod j sz
 obtain⟨g,off,e,hg,hc⟩:=h (j / sz) hi;have hf:=GR.flat_at enc sz hs l (j / sz) hi (j % sz) hr;rw [ej] at hf;have h2:=hc (j % sz) hr;rw [ej,<-hf,hu] at h2;injection e with e
 subst e;rw [aIk];exact h2
theorem CY (l:List jM):∀u∈GR.flat aM l,u.oneCell'=true:=by
 intro u hu;unfold GR.flat at hu;rw [aHw] at hu;obtain⟨p,_,hp⟩:=hu;simp only[aM,aGF,aHx,or_false] at hp;rcases hp with rfl|rfl|rfl|rfl<;>rfl
theorem xE {α:Type} {enc:α->List Value} {sz:Nat} {w:World} {B:Nat} {t:TypeId} {a:Option Addr} {cp:Nat} {l:List α} (h:w.ownsRow B t sz (.slice a l.length cp) l.length (GR.flat enc l)) (hl:0 < l.length):∃g rest,a=some ⟨g,0,none⟩/\B<=g/\w.heap[g]?=some (.cells (GR.flat enc l++rest).toArray t (0,0)):=by
 rcases h.2 with⟨_,hy⟩|⟨g,cp',cur,hx,hbg,hgg,hnc,hcm,hcs,htk⟩
 .omega
 simp only[aG4] at hx;obtain⟨rfl,_,rfl⟩:=hx;refine⟨g,cur.toList.drop (l.length*sz),rfl,hbg,?_⟩;rw [<-htk,aGW,Array.toArray_toList];exact hgg
theorem wO {α:Type} {enc:α->List Value} {sz:Nat} (hs:∀x,(enc x).length=sz) {w:World} {g:Nat} {l:List α} {t:TypeId} {rest:List Value} (h:w.heap[g]?=some (.cells (GR.flat enc l++rest).toArray t (0,0))) (i:Nat) (hi:i < l.length) (j:Nat) (hj:j < sz):w.cell? ⟨g,i*sz+j,none⟩=(enc l[i])[j]?:=by
 have hlt:i*sz+j < (GR.flat enc l).length:=by
  rw [GR.flat_length enc sz hs];have:(i+1)*sz<=l.length*sz:=aHZ sz hi;exact abz
 rw [aGu w g _ _ t (0,0) h,aHN,aHJ hlt];exact GR.flat_at enc sz hs l i hi j hj
theorem nH {w:World} {cs:Array Value} {fr:Nat×Nat} (h:w.heap[g]?=some (.cells cs t fr)) (hc:w.cell? ⟨g,i,none⟩=some v):Below w.heap.size w (w.setCell ⟨g,i,none⟩ v):=by
 refine⟨rfl,rfl,rfl,Aaq,λk hk=>?_⟩;by_cases e:k=g
 .subst e;have h1:w.cell? ⟨k,i,none⟩=cs[i]?:=aGu w k i cs t fr h;rw [hc] at h1;unfold World.setCell;simp only[Array.getElem?_modify];rw [aGC trivial,h]
  have h2:cs.setIfInBounds i v=cs:=by
   apply Array.ext_getElem?
   intro q;rw [Array.getElem?_setIfInBounds];split
   .rename_i e
    subst e;split
    .exact h1
    .rw [aGU Aaa]
   .rfl
  simp[h2]
 .exact aGx _ _ _ _ e
theorem abK (a:Option Addr) (cap:Nat) (l:List jM) (w:World) (hl:l.length<=1048600) (hv:∀u∈GR.flat aM l,u.oneCell'=true) (ha:GR.At aM 4 w a l):
 Calls prog 119 #[.slice a l.length cap] w λe w'=>∃v,e= .returned v/\w'.ownsRow w.heap.size 91 4 v l.length (GR.flat aM l)/\aI w w':=by
 obtain⟨i0,hi,hz0,hz1,hz2⟩:=aGV FW;have q22:∀(w:World) (a:Option Addr) (n c n' c':Nat),(binOp .eql 36 (.slice a n c) (.slice none n' c')).run prog w= .ok (.bool a.isNone) w:=λw a n c n' c'=>aHO w _ _ a n c n' c' underlying36
 have hlit:(w.alloc (.cells #[] 91)).ownsRow w.heap.size 91 4 (.slice (some ⟨w.heap.size,0,none⟩) 0 0) 0 []:=aGY (base:=w.heap.size) (e:=91) (size:=4) w #[] 0 (aGh _) Aae rfl;cases a with
 |none=>
  have hl0:l=[]:=GR.none_nil ha;subst hl0;clear ha hlit hv;go_in
  exact TF
 |some x=>
  have HN:=Hq (Kt aZ Aaa (GR.At.below ha (ay w (.cells #[] 91))));have HV:=Hq hv;clear ha hv;go_in
  go_wp2_with (at_builtin;refine aHg _ rfl _ _ 36 rfl w.heap.size 91 i0 (.agg (gV 0 0 ByteArray.empty 0)) 4 40 underlying36 hi hz0 hz1 hz2 rfl Aae _ 0 [] rfl hlit x l.length cap (GR.flat aM l) rfl ?c0 ?c1 ?c2 ?c3 ?c4 ?c5 ?_)
  case c0=>exact GR.flat_length aM 4 aZ l
  case c1=>exact HN
  case c2=>exact HV
  case c3=>unfold maxLen;omega
  case c4=>omega
  case c5=>simp
  intro v' w1 hown' hgrow _;have HO:=Hq (show w1.ownsRow w.heap.size 91 4 v' l.length (GR.flat aM l) by simpa using hown');exact XV
theorem afc (a:Option Addr) (cap:Nat) (l:List Rq) (w:World) (hl:l.length<=1048600) (hv:∀u∈GR.flat aJ l,u.oneCell'=true) (ha:GR.At aJ 4 w a l):
 Calls prog 121 #[.slice a l.length cap] w λe w'=>∃v,e= .returned v/\w'.ownsRow w.heap.size 95 4 v l.length (GR.flat aJ l)/\aI w w':=by
 obtain⟨i0,hi,hz0,hz1,hz2⟩:=aGV Ai;have q22:∀(w:World) (a:Option Addr) (n c n' c':Nat),(binOp .eql 38 (.slice a n c) (.slice none n' c')).run prog w= .ok (.bool a.isNone) w:=λw a n c n' c'=>aHO w _ _ a n c n' c' underlying38
 have hlit:(w.alloc (.cells #[] 95)).ownsRow w.heap.size 95 4 (.slice (some ⟨w.heap.size,0,none⟩) 0 0) 0 []:=aGY (base:=w.heap.size) (e:=95) (size:=4) w #[] 0 (aGh _) Aae rfl;cases a with
 |none=>
  have hl0:l=[]:=GR.none_nil ha;subst hl0;clear ha hlit hv;go_in
  exact TF
 |some x=>
  have HN:=Hq (Kt aN Aaa (GR.At.below ha (ay w (.cells #[] 95))));have HV:=Hq hv;clear ha hv;go_in
  go_wp2_with (at_builtin;refine aHg _ rfl _ _ 38 rfl w.heap.size 95 i0 (.agg (fH 0 ByteArray.empty 0 0)) 4 40 underlying38 hi hz0 hz1 hz2 rfl Aae _ 0 [] rfl hlit x l.length cap (GR.flat aJ l) rfl ?c0 ?c1 ?c2 ?c3 ?c4 ?c5 ?_)
  case c0=>exact GR.flat_length aJ 4 aN l
  case c1=>exact HN
  case c2=>exact HV
  case c3=>unfold maxLen;omega
  case c4=>omega
  case c5=>simp
  intro v' w1 hown' hgrow _;have HO:=Hq (show w1.ownsRow w.heap.size 95 4 v' l.length (GR.flat aJ l) by simpa using hown');exact XV
theorem afb (a:Option Addr) (cap:Nat) (l:List R3) (w:World) (hl:l.length<=1048600) (hv:∀u∈GR.flat fq l,u.oneCell'=true) (ha:GR.At fq 3 w a l):
 Calls prog 120 #[.slice a l.length cap] w λe w'=>∃v,e= .returned v/\w'.ownsRow w.heap.size 110 3 v l.length (GR.flat fq l)/\aI w w':=by
 obtain⟨i0,hi,hz0,hz1,hz2⟩:=aGV FV;have q22:∀(w:World) (a:Option Addr) (n c n' c':Nat),(binOp .eql 37 (.slice a n c) (.slice none n' c')).run prog w= .ok (.bool a.isNone) w:=λw a n c n' c'=>aHO w _ _ a n c n' c' underlying37
 have hlit:(w.alloc (.cells #[] 110)).ownsRow w.heap.size 110 3 (.slice (some ⟨w.heap.size,0,none⟩) 0 0) 0 []:=aGY (base:=w.heap.size) (e:=110) (size:=3) w #[] 0 (aGh _) Aae rfl;cases a with
 |none=>
  have hl0:l=[]:=GR.none_nil ha;subst hl0;clear ha hlit hv;go_in
  exact TF
 |some x=>
  have HN:=Hq (Kt bY Aaa (GR.At.below ha (ay w (.cells #[] 110))));have HV:=Hq hv;clear ha hv;go_in
  go_wp2_with (at_builtin;refine aHg _ rfl _ _ 37 rfl w.heap.size 110 i0 (.agg #[.int .i64 0,.int .i64 0,.slice none 0 0]) 3 40 underlying37 hi hz0 hz1 hz2 rfl Aae _ 0 [] rfl hlit x l.length cap (GR.flat fq l) rfl ?c0 ?c1 ?c2 ?c3 ?c4 ?c5 ?_)
  case c0=>exact GR.flat_length fq 3 bY l
  case c1=>exact HN
  case c2=>exact HV
  case c3=>unfold maxLen;omega
  case c4=>omega
  case c5=>simp
  intro v' w1 hown' hgrow _;have HO:=Hq (show w1.ownsRow w.heap.size 110 3 v' l.length (GR.flat fq l) by simpa using hown');exact XV
theorem adN {w:World} {l:List Sn} (h:iW w a l):∃T:List R3,T.length=l.length/\GR.At fq 3 w a T/\(∀u∈GR.flat fq T,u.oneCell'=true)/\∀i (hi:i < l.length),∃b c,T[i]?=some ⟨l[i].f,l[i].l,.slice b l[i].ids.length c⟩/\dH w b l[i].ids:=by
 have hk:∀k,k<=l.length->∃T:List R3,T.length=k/\(∀i (hi:i < T.length) (hl:i < l.length),∃b c,T[i]=⟨l[i].f,l[i].l,.slice b l[i].ids.length c⟩/\dH w b l[i].ids/\∃g off,a=some ⟨g,off,none⟩/\g < w.heap.size/\w.cell? ⟨g,off+i*3,none⟩=some (.int .i64 l[i].f)/\w.cell? ⟨g,off+i*3+1,none⟩=some (.int .i64 l[i].l)/\w.cell? ⟨g,off+i*3+2,none⟩=some (.slice b l[i].ids.length c)):=by
  intro k;induction k with
  |zero=>intro _;exact⟨[],rfl,λi hi=>Aas⟩
  |succ k ih=>
   intro hk;obtain⟨T,hT,hr⟩:=ih Aaa;obtain⟨g,off,b,c,e,hg,h0,h1,h2,h3⟩:=h k Aaa;refine⟨T++[⟨l[k].f,l[k].l,.slice b l[k].ids.length c⟩],by simp[hT],λi hi hl=>?_⟩;by_cases hik:i < T.length
   .rw [List.getElem_append_left hik];exact hr i hik hl
   .have hi':i=k:=Abu
    subst hi';refine⟨b,c,?_,h3,g,off,e,hg,h0,h1,h2⟩;rw [List.getElem_append_right Aaa];simp[hT]
 obtain⟨T,hT,hr⟩:=hk l.length (aGh _);refine⟨T,hT,λi hi=>?_,λu hu=>?_,λi hi=>?_⟩
 .obtain⟨b,c,e,_,g,off,ea,hg,h0,h1,h2⟩:=hr i hi Aaa;refine⟨g,off,ea,hg,λj hj=>?_⟩;rw [e];match j,hj with
  |0,_=>exact h0
  |1,_=>rw [<-aGI];exact h1
  |2,_=>rw [<-aGI];exact h2
 .unfold GR.flat at hu;rw [aHw] at hu;obtain⟨p,hp,hq⟩:=hu;obtain⟨i,hi,rfl⟩:=aHm.1 hp;obtain⟨b,c,e,_⟩:=hr i hi Aaa;rw [e] at hq;simp only[fq,aGF,aHx,or_false] at hq;rcases hq with rfl|rfl|rfl<;>rfl
 .obtain⟨b,c,e,hI,_⟩:=hr i Aaa hi;exact⟨b,c,by rw [aGo Aaa,e],hI⟩
theorem tu {a:Nat} {l m:List Nat} (hl:l.Nodup) (hm:m.Nodup) (h1:∀x∈l,c x=a) (h2:∀x∈m,c x≠a):(l++m).Nodup:=by
 rw [aHp];exact⟨hl,hm,λx hx y hy e=>h2 y hy (by rw [<-e];exact h1 x hx)⟩
theorem NO.full {w:World} (h:NO w B n A G c):
 ∃G2,jd w A G2 n/\G2.Sep n B w.heap.size/\∀x∈G2.all n,c x≠0/\c x<=6:=by
 obtain⟨_,_,go,eo,hWo,hro,hoo⟩:=GR.W.of_own (enc:=aM) aZ h.o;cases eo
 obtain⟨_,_,gr,er,hWr,hrr,hor⟩:=GR.W.of_own (enc:=aJ) aN h.r;cases er
 have c1:=h.ck;have c2:=h.cp;have c3:∀x∈fp go n.out,c x=3:=λx hx=>h.co x (hoo x hx)
 have c4:=h.c4;have c5:=h.ci;have c6:∀x∈fp gr n.reqs,c x=6:=λx hx=>h.cr x (hor x hx)
 have Ml:∀x∈aR.all ⟨G.k,G.p,go,G.s,gr,G.i⟩ n,c x≠0/\c x<=6:=λx hx=>by
  rcases aR.mem_all.1 hx with h1|h1|h1|h1|h1|h1
  .have:=c1 x h1;omega
  .have:=c2 x h1;omega
  .have:=c3 x h1;omega
  .have:=c4 x h1;omega
  .have:=c5 x h1;omega
  .have:=c6 x h1;omega
 refine⟨⟨G.k,G.p,go,G.s,gr,G.i⟩,⟨h.k,h.p,hWo,h.s,hWr⟩,⟨?_,λx hx=>⟨?_,?_⟩⟩,Ml⟩
 .unfold aR.all;refine tu (c:=c) (a:=1) (jN _ _) ?_ c1 (λx hx=>?_)
  .refine tu (c:=c) (a:=2) (jN _ _) ?_ c2 (λx hx=>?_)
   .refine tu (c:=c) (a:=3) (jN _ _) ?_ c3 (λx hx=>?_)
    .refine tu (c:=c) (a:=4) (jN _ _) ?_ c4 (λx hx=>?_)
     .refine tu (c:=c) (a:=5) h.ni (jN _ _) c5 (λx hx=>?_);have:=c6 x hx;omega
     .rcases aGE.1 hx with h1|h1
      .have:=c5 x h1;omega
      .have:=c6 x h1;omega
    .rcases aGE.1 hx with h1|h1
     .have:=c4 x h1;omega
     .exact aiE
   .rcases aGE.1 hx with h1|h1
    .have:=c3 x h1;omega
    .exact ajB
  .rcases aGE.1 hx with h1|h1
   .have:=c2 x h1;omega
   .rcases aGE.1 h1 with h1|h1
    .have:=c3 x h1;omega
    .exact ajB
 .by_cases hlt:x < B
  .have:=h.lo x hlt;have:=Ml x hx;omega
  .omega
 .rcases aR.mem_all.1 hx with h1|h1|h1|h1|h1|h1
  .exact uL h.k x h1
  .exact uL h.p x h1
  .exact uL hWo x h1
  .exact(vC h.s).1 x h1
  .exact(vC h.s).2 x h1
  .exact uL hWr x h1
structure WO (w:World) (b:Option Addr) (c x:Nat) (ids:List Int):Prop where
 W:GR.W aS 1 w b x ids
 e:ids=[]->c=0
 o:ids≠[]->w.ownsRow 0 3 1 (.slice b ids.length c) ids.length (GR.flat aS ids)
theorem WO.of_own {w:World} {c:Nat} (hW:GR.W aS 1 w b x ids) (h:w.ownsRow B 3 1 (.slice b ids.length c) ids.length (GR.flat aS ids)) (h0:ids=[]->c=0):WO w b c x ids:=
 ⟨hW,h0,λ_=>GR.own_lower h (aGB _)⟩
theorem WO.blk {w:World} {c y:Nat} (h:WO w b c x ids) (hn:ids≠[]) (hy:(Value.slice b ids.length c).ownBlock=some y):y=x/\0 < ids.length:=by
 have hpos:0 < ids.length:=by
  cases ids with
  |nil=>exact absurd rfl hn
  |cons _ _=>simp
 obtain⟨e,_,_⟩:=h.W 0 hpos;subst e;exact⟨by simpa [Value.ownBlock] using hy.symm,hpos⟩
theorem WO.keeps {w:World} {c:Nat} (h:WO w b c x ids) (hk:aC F w w') (hd:∀y∈fp x ids,y∉F):WO w' b c x ids:=by
 refine⟨h.W.keeps hk hd,h.e,λhn=>⟨(h.o hn).1,?_⟩⟩;rcases(h.o hn).2 with h1|⟨g,cap,cur,hv,hb,hgg,rest⟩
 .exact .inl h1
 .refine .inr ⟨g,cap,cur,hv,hb,hk.obj hgg (λhm=>?_),rest⟩;have h2:=h.blk hn (y:=g) (by rw [hv];rfl);rw [h2.1] at hm;exact hd x (dX h2.2) hm
theorem WO.below {w:World} {c:Nat} (h:WO w b c x ids) (hb:aI w w'):WO w' b c x ids:=h.keeps (F:=[]) (aC.of_below hb) (λ_ _=>Aac)
theorem WO.blocks {w:World} {c:Nat} (h:WO w b c x ids) (hs:w.heap.size<=w'.heap.size) (hb:∀y∈fp x ids,w'.heap[y]?=w.heap[y]?):WO w' b c x ids:=by
 refine⟨λi hi=>?_,h.e,λhn=>⟨(h.o hn).1,?_⟩⟩
 .obtain⟨e,hg,hc⟩:=h.W i hi;have hbx:=hb x (dX Aaa);exact aiR
 .rcases(h.o hn).2 with h1|⟨g,cap,cur,hv,hB,hgg,rest⟩
  .exact .inl h1
  .have h2:=h.blk hn (y:=g) (by rw [hv];rfl);exact .inr ⟨g,cap,cur,hv,hB,(by rw [h2.1];rw [h2.1] at hgg;exact(hb x (dX h2.2)).trans hgg),rest⟩
def aaE (w:World) (l:List Sn) (T:List R3) (I:Nat->Nat):Prop:=T.length=l.length/\∀i (hi:i < l.length),∃b c,T[i]?=some ⟨l[i].f,l[i].l,.slice b l[i].ids.length c⟩/\WO w b c (I i) l[i].ids
def pQ (w:World) (a:Option Addr) (g:Nat) (I:Nat->Nat) (l:List Sn):Prop:=(∃T,GR.W fq 3 w a g T/\aaE w l T I)/\(0 < l.length->∃cs,w.heap[g]?=some (.cells cs 110 (0,0)))
theorem pQ.w {w:World} {l:List Sn} (h:pQ w a g I l):eF w a g I l:=by
 obtain⟨⟨T,hT,hl,hr⟩,_⟩:=h;refine⟨T,hT,hl,λi hi=>?_⟩;obtain⟨b,c,ht,ho⟩:=hr i hi;exact⟨b,c,ht,ho.W⟩
theorem pQ.blocks {w:World} {l:List Sn} (h:pQ w a g I l) (hs:w.heap.size<=w'.heap.size) (hb:∀x∈fp g l,w'.heap[x]?=w.heap[x]?) (hI:∀x∈nA I l,w'.heap[x]?=w.heap[x]?):pQ w' a g I l:=by
 obtain⟨⟨T,hT,hl,hr⟩,hy⟩:=h;refine⟨⟨T,λi hi=>?_,hl,λi hi=>?_⟩,λhp=>?_⟩
 .obtain⟨e,hg,hc⟩:=hT i hi;have hbx:=hb g (dX Aaa);exact aiR
 .obtain⟨b,c,ht,ho⟩:=hr i hi;exact⟨b,c,ht,ho.blocks hs (λx hx=>hI x (jI hi x hx))⟩
 .obtain⟨cs,hc⟩:=hy hp;exact⟨cs,(hb g (dX hp)).trans hc⟩
theorem KC.seenQ {w:World} {l:List Sn} (h:KC c k w w') (hs:pQ w a g I l) (h4:∀x∈fp g l,c x=4) (h5:∀x∈nA I l,c x=5) (hk4:4≠k) (hk5:5≠k):pQ w' a g I l:=
 hs.blocks h.size (λx hx=>h.block x ((vC hs.w).1 x hx) (by rw [h4 x hx];exact hk4)) (λx hx=>h.block x ((vC hs.w).2 x hx) (by rw [h5 x hx];exact hk5))
structure NQ (w:World) (B:Nat) (n:Nd) (A:bV) (G:aR) (c:Nat->Nat):Prop extends NO w B n A G c where
 sq:pQ w A.s G.s G.i n.seen
theorem NQ.kc {w:World} (h:NQ w B n A G c) (hk:KC c k w w') (h7:6 < k):NQ w' B n A G c:=
 ⟨h.toNO.kc hk h7,hk.seenQ h.sq h.c4 h.ci Aaa Aaa⟩
theorem NQ.recol {w:World} (h:NQ w B n A G c) (hB:B<=w.heap.size) (hc:∀x,x < w.heap.size->c' x=c x):NQ w B n A G c':=⟨h.toNO.recol hB hc,h.sq⟩
structure RMc (w:World) (A:bV) (n:Nd) (gk gs:Nat) (I:Nat->Nat) (c:Nat->Nat):Prop where
 k:GR.W aS 1 w A.k gk n.kids
 p:aH w A.p n.pu
 o:w.ownsRow 0 91 4 (.slice A.o n.out.length A.co) n.out.length (GR.flat aM n.out)
 s:pQ w A.s gs I n.seen
 r:w.ownsRow 0 95 4 (.slice A.r n.reqs.length A.cr) n.reqs.length (GR.flat aJ n.reqs)
 ck:∀x∈fp gk n.kids,c x=1
 cp:∀g,A.p.map (λy=>y.block)=some g->0 < n.pu.length->c g=2
 co:∀x,(Value.slice A.o n.out.length A.co).ownBlock=some x->c x=3
 c4:∀x∈fp gs n.seen,c x=4
 ci:∀x∈nA I n.seen,c x=5
 cr:∀x,(Value.slice A.r n.reqs.length A.cr).ownBlock=some x->c x=6
 ni:(nA I n.seen).Nodup
def RM (w:World) (A:bV) (n:Nd):Prop:=∃gk gs I c,RMc w A n gk gs I c
theorem RMc.at {w:World} (h:RMc w A n gk gs I c):dD w A n:=by
 refine⟨h.k.at,h.p,?_,h.s.w.at,?_⟩
 .exact ajp
 .exact ajq
theorem RM.at {w:World} (h:RM w A n):dD w A n:=by
 obtain⟨_,_,_,_,h⟩:=h;exact h.at
theorem RM.of {w:World} (k:GR.W aS 1 w A.k gk n.kids) (ck:∀x∈fp gk n.kids,c x=1) (s:pQ w A.s gs I n.seen) (c4:∀x∈fp gs n.seen,c x=4) (ci:∀x∈nA I n.seen,c x=5) (ni:(nA I n.seen).Nodup) (p:aH w A.p n.pu) (cp:∀g,A.p.map (λy=>y.block)=some g->0 < n.pu.length->c g=2\/6 < c g) (o:w.ownsRow Bo 91 4 (.slice A.o n.out.length A.co) n.out.length (GR.flat aM n.out)) (co:∀x,(Value.slice A.o n.out.length A.co).ownBlock=some x->c x=3\/6 < c x) (r:w.ownsRow Br 95 4 (.slice A.r n.reqs.length A.cr) n.reqs.length (GR.flat aJ n.reqs)) (cr:∀x,(Value.slice A.r n.reqs.length A.cr).ownBlock=some x->c x=6\/6 < c x) (po:∀g,A.p.map (λy=>y.block)=some g->0 < n.pu.length->6 < c g->(Value.slice A.o n.out.length A.co).ownBlock≠some g/\(Value.slice A.r n.reqs.length A.cr).ownBlock≠some g) (or:∀x,(Value.slice A.o n.out.length A.co).ownBlock=some x->6 < c x->(Value.slice A.r n.reqs.length A.cr).ownBlock≠some x):RM w A n:=by
 have po2:∀g,A.p.map (λy=>y.block)=some g->0 < n.pu.length->(Value.slice A.o n.out.length A.co).ownBlock≠some g/\(Value.slice A.r n.reqs.length A.cr).ownBlock≠some g:=λg hg hp=>by
  rcases cp g hg hp with h|h
  .exact⟨λe=>by have:=co g e;omega,λe=>by have:=cr g e;omega⟩
  .exact po g hg hp h
 have or2:∀x,(Value.slice A.o n.out.length A.co).ownBlock=some x->(Value.slice A.r n.reqs.length A.cr).ownBlock≠some x:=λx hx=>by
  rcases co x hx with h|h
  .exact λe=>by have:=cr x e;omega
  .exact or x hx h
 refine⟨gk,gs,I,λx=>if A.p.map (λy=>y.block)=some x/\0 < n.pu.length then 2 else if (Value.slice A.o n.out.length A.co).ownBlock=some x then 3 else if (Value.slice A.r n.reqs.length A.cr).ownBlock=some x then 6 else c x,?_⟩
 have same:∀x,c x=1\/c x=4\/c x=5->(if A.p.map (λy=>y.block)=some x/\0 < n.pu.length then 2 else if (Value.slice A.o n.out.length A.co).ownBlock=some x then 3 else if (Value.slice A.r n.reqs.length A.cr).ownBlock=some x then 6 else c x)=c x:=λx hx=>by
  rw [aGr (λh=>by have:=cp x h.1 h.2;omega),aGr (λh=>by have:=co x h;omega),aGr (λh=>by have:=cr x h;omega)]
 refine⟨k,p,GR.own_lower o (aGB _),s,GR.own_lower r (aGB _),λx hx=>?_,λg hg hp=>?_,λx hx=>?_,λx hx=>?_,λx hx=>?_,λx hx=>?_,ni⟩
 .have:=ck x hx;show(if _ then _ else _)=1
  rw [same x Aaa];exact this
 .show(if _ then _ else _)=2
  rw [aGC ⟨hg,hp⟩]
 .show(if _ then _ else _)=3
  rw [aGr (λh=>(po2 x h.1 h.2).1 hx),aGC hx]
 .have:=c4 x hx;show(if _ then _ else _)=4
  rw [same x Aaa];exact this
 .have:=ci x hx;show(if _ then _ else _)=5
  rw [same x Aaa];exact this
 .show(if _ then _ else _)=6
  rw [aGr (λh=>(po2 x h.1 h.2).2 hx),aGr (λh=>or2 x h hx),aGC hx]
theorem aaG {α:Type} {enc:α->List Value} {sz:Nat} {w:World} {a:Option Addr} {g:Nat} {l:List α} (h:GR.W enc sz w a g l) (hp:0 < l.length):a.map (λy=>y.block)=some g:=by
 obtain⟨e,_,_⟩:=h 0 hp;rw [e];rfl
theorem NQ.rm {w:World} (h:NQ w B n A G c):RM w A n:=
 RM.of h.k h.ck h.sq h.c4 h.ci h.ni h.p.at (λg hg hp=>by rw [aaG h.p hp] at hg;cases hg;exact .inl (h.cp _ (dX hp))) h.o (λx hx=> .inl (h.co x hx)) h.r (λx hx=> .inl (h.cr x hx))
  (λg hg hp h6=>by rw [aaG h.p hp] at hg;cases hg;have:=h.cp _ (dX hp);omega) (λx hx h6=>by have:=h.co x hx;omega)
theorem tH {α:Type} {enc:α->List Value} {sz B:Nat} {w:World} {e:TypeId} {a:Option Addr} {c g:Nat} {l:List α} (h:w.ownsRow B e sz (.slice a l.length c) l.length (GR.flat enc l)) (hg:a.map (λy=>y.block)=some g):(Value.slice a l.length c).ownBlock=some g:=by
 rcases h.2 with⟨hv,_⟩|⟨g',cap,cur,hv,_⟩
 .simp only[aG4] at hv;rw [hv.1] at hg;cases hg
 .simp only[aG4] at hv;rw [hv.1] at hg ⊢;cases hg
  rfl
theorem uZ {w:World} (h:w.ownsRow B e sz v k xs) (hx:v.ownBlock=some x):B<=x:=by
 rcases h.2 with⟨rfl,_⟩|⟨g,cap,cur,rfl,hb,_⟩
 .simp[Value.ownBlock] at hx
 .have:g=x:=Abm
  omega
theorem Cv {w:World} (h:w.ownsRow B e sz v k xs) (hx:v.ownBlock=some x):x < w.heap.size:=by
 rcases h.2 with⟨rfl,_⟩|⟨g,cap,cur,rfl,hb,hg,_⟩
 .simp[Value.ownBlock] at hx
 .have:g=x:=Abm
  rw [<-this];exact aA hg
theorem NQ.put {w:World} (h:NQ w B n A G c) (hc:NQ X B' n A G c') (n':Nd) (A':bV) (ek:n'.kids=n.kids) (es:n'.seen=n.seen) (ak:A'.k=A.k) (ea:A'.s=A.s) (p:aH w A'.p n'.pu) (cp:∀g,A'.p.map (λy=>y.block)=some g->0 < n'.pu.length->c' g=2\/6 < c' g) (o:w.ownsRow Bo 91 4 (.slice A'.o n'.out.length A'.co) n'.out.length (GR.flat aM n'.out)) (co:∀x,(Value.slice A'.o n'.out.length A'.co).ownBlock=some x->c' x=3\/6 < c' x) (r:w.ownsRow Br 95 4 (.slice A'.r n'.reqs.length A'.cr) n'.reqs.length (GR.flat aJ n'.reqs)) (cr:∀x,(Value.slice A'.r n'.reqs.length A'.cr).ownBlock=some x->c' x=6\/6 < c' x) (po:∀g,A'.p.map (λy=>y.block)=some g->0 < n'.pu.length->6 < c' g->(Value.slice A'.o n'.out.length A'.co).ownBlock≠some g/\(Value.slice A'.r n'.reqs.length A'.cr).ownBlock≠some g) (or:∀x,(Value.slice A'.o n'.out.length A'.co).ownBlock=some x->6 < c' x->(Value.slice A'.r n'.reqs.length A'.cr).ownBlock≠some x):RM w A' n':=
 RM.of (c:=c') (gk:=G.k) (gs:=G.s) (I:=G.i) (by rw [ek,ak];exact h.k) (by rw [ek];exact hc.ck) (by rw [es,ea];exact h.sq) (by rw [es];exact hc.c4) (by rw [es];exact hc.ci) (by rw [es];exact hc.ni) p cp o co r cr po or
theorem NQ.cpB {w:World} (h:NQ w B n A G c) (hc:NQ X B' n A G c'):∀g,A.p.map (λy=>y.block)=some g->0 < n.pu.length->c' g=2:=λg hg hp=>by
 rw [aaG h.p hp] at hg;cases hg
 exact hc.cp _ (dX hp)
theorem WK.start {y W:World} (hb:aI w0 y) (hN:NO y w0.heap.size n A G c) (hs:y.heap.size<=wb) (hY:aI y W) (hblk:W.heap[wb]?=some (.cells (Xx n A (.slice none 0 0)) 192 (0,0))):WK w0 W wb n A G (newC y.heap.size 8 c) (.slice none 0 0) []:=by
 have h1:=(hN.recol (c':=newC y.heap.size 8 c) hb.size (λx hx=>fE hx)).kc (k:=9) (KC.of_below hY) Aaa;exact⟨hb.trans (hY.mono hb.size),hblk,h1,World.ownsRow_nil _ _ _ _,(λx hx=>by cases hx),bQ hs⟩
theorem WK.mute {w:World} (h:WK w0 w wb n A G c v L):WK w0 (w.setCell ⟨wb,9,none⟩ (.slice none 0 0)) wb n A G c (.slice none 0 0) []:=by
 have hk:KC c 8 w (w.setCell ⟨wb,9,none⟩ (.slice none 0 0)):=KC.keeps (aC.set _) (λx hx=>by rw [aGA.1 hx];exact h.cw);exact⟨h.keep.setCell (p:=⟨wb,9,none⟩) h.lo _,aT h.blk 9 _,h.no.kc hk Aaa,World.ownsRow_nil _ _ _ _,(λx hx=>by cases hx),h.cw⟩
def tY (I:Nat->Nat) (k gi:Nat):Nat->Nat:=λi=>if i=k then gi else I i
theorem eF.store {w:World} {l:List Sn} (h:eF w a g I l) (k:Nat) (hk:k < l.length) (s:Sn) (b:Option Addr) (cc gi:Nat) (hi:GR.W aS 1 w b gi s.ids) (hg4:∀x∈nA I l,x≠g) (hgi:∀x∈fp gi s.ids,x≠g):
 eF (GR.setW w g (k*3) [.int .i64 s.f,.int .i64 s.l,.slice b s.ids.length cc]) a g (tY I k gi) (l.set k s):=by
 obtain⟨T,hT,hl,hr⟩:=h;have Sz:k < T.length:=Aaa
 have hkp:=aX (g:=g) [.int .i64 s.f,.int .i64 s.l,.slice b s.ids.length cc] w (k*3);refine⟨T.set k ⟨s.f,s.l,.slice b s.ids.length cc⟩,GR.W.set bY hT k ⟨s.f,s.l,.slice b s.ids.length cc⟩ Sz,Aci,λi hi'=>?_⟩;exact azJ
theorem KC.setW {o:Nat} {w:World} (vs:List Value) (hc:c g=k):KC c k w (GR.setW w g o vs):=KC.keeps (aX vs w o) (λx hx=>by have:x=g:=Aah;rw [this];exact hc)
end Go.Proofs.YtohmklmkjmlpjaaGreatDoor
