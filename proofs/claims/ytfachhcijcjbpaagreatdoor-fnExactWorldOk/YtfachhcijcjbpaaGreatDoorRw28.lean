/- Parts. -/
import Derived.Test.YtfachhcijcjbpaaGreatDoorRw27
namespace Go.Proofs.YtfachhcijcjbpaaGreatDoor
open Go.Proofs.Tryz
set_option maxHeartbeats 1000000
open Go.RowKit
open Mth
variable {c I c':Nat->Nat} {k B g sz x wb i j gk gs Bo Br B':Nat} {n:Nd} {A:bg} {w' w0 X:World} {G:aR} {a b:Option Addr} {v:Value} {α:Type} {enc:α->List Value} {l:List α} {L:List Mg} {ids:List Int} {e t:TypeId} {xs:List Value} {F:List Nat}
structure KC (c:Nat->Nat) (k:Nat) (w w':World):Prop where
 os:w'.os=w.os
 tape:w'.tape=w.tape
 output:w'.output=w.output
 size:w.heap.size<=w'.heap.size
 block:∀x,x < w.heap.size->c x≠k->w'.heap[x]?=w.heap[x]?
theorem KC.of_below {w:World} (h:aG w w'):KC c k w w':=⟨h.os,h.tape,h.output,h.size,λx hx _=>h.block x hx⟩
theorem KC.trans {a b d:World} (h:KC c k a b) (h':KC c k b d):KC c k a d:=
 ⟨h'.os.trans h.os,h'.tape.trans h.tape,h'.output.trans h.output,aEA h.size h'.size,λx hx hc=>(h'.block x (aEH hx h.size) hc).trans (h.block x hx hc)⟩
theorem KC.set {w:World} (hc:c g=k):KC c k w (w.setCell ⟨g,i,none⟩ v):=
 ⟨rfl,rfl,rfl,Aaq,λx _ hx=>aEU _ _ _ _ (λe=>hx (by rw [e];exact hc))⟩
theorem KC.keeps {w:World} (h:aC F w w') (hF:∀x∈F,c x=k):KC c k w w':=⟨h.os,h.tape,h.output,h.size,λx hx hc=>h.block x hx (λhm=>hc (hF x hm))⟩
theorem KC.grown {row:Option Nat} {w:World} (h:w.grownBy w' row) (hF:∀x,row=some x->c x=k):KC c k w w':=⟨h.os,h.tape,h.output,h.size,λx hx hc=>h.block x hx (λhm=>hc (hF x hm.symm))⟩
theorem KC.below {a w:World} (hb:Below B a w) (h:KC c k w w') (hlo:∀x,x < B->c x=0) (hk:k≠0) (hB:B<=w.heap.size):Below B a w':=
 ⟨h.os.trans hb.os,h.tape.trans hb.tape,h.output.trans hb.output,aEA hb.size h.size,λx hx=>(h.block x Aaa (by rw [hlo x hx];omega)).trans (hb.block x hx)⟩
theorem KC.obj {w:World} {o:Obj} (h:KC c k w w') (ho:w.heap[g]?=some o) (hg:c g≠k):w'.heap[g]?=some o:=by rw [h.block g (ay ho) hg];exact ho
theorem KC.w {α:Type} {enc:α->List Value} {sz:Nat} {c:Nat->Nat} {k j:Nat} {w w':World} {a:Option Addr} {g:Nat} {l:List α} (h:KC c k w w') (hw:GR.W enc sz w a g l) (hc:∀x∈fp g l,c x=j) (hj:j≠k):GR.W enc sz w' a g l:=λi hi=>by
 obtain⟨e,hg,hcell⟩:=hw i hi;have hb:=h.block g hg (by rw [hc g (dH Aaa)];exact hj);exact⟨e,aEH hg h.size,λq hq=>⟨(aE6 (w:=w) hb).trans (hcell q hq).1,(aGj (w:=w) hb).trans (hcell q hq).2⟩⟩
theorem KC.own {w:World} {n:Nat} (h:KC c k w w') (ho:w.ownsRow B e sz v n xs) (hc:∀x,v.ownBlock=some x->c x=j) (hj:j≠k):w'.ownsRow B e sz v n xs:=by
 refine⟨ho.1,?_⟩;rcases ho.2 with hn|⟨g,cap,cur,rfl,hb,hgg,rest⟩
 .exact .inl hn
 .exact .inr ⟨g,cap,cur,rfl,hb,h.obj hgg (by rw [hc g rfl];exact hj),rest⟩
theorem KC.seen {w:World} {l:List Sn} (h:KC c k w w') (hs:fU w a g I l) (h4:∀x∈fp g l,c x=4) (h5:∀x∈uo I l,c x=5) (hk4:4≠k) (hk5:5≠k):fU w' a g I l:=by
 obtain⟨T,hT,hl,hr⟩:=hs;refine⟨T,h.w hT (λx hx=>h4 x ?_) hk4,hl,λi hi=>?_⟩
 .have:=dz hx;rw [this.1];exact dH Aaa
 .obtain⟨b,d,ht,hi2⟩:=hr i hi;exact⟨b,d,ht,h.w hi2 (λx hx=>h5 x (jE hi x hx)) hk5⟩
structure NO (w:World) (B:Nat) (n:Nd) (A:bg) (G:aR) (c:Nat->Nat):Prop where
 k:GR.W aW 1 w A.k G.k n.kids
 p:GR.W fO 4 w A.p G.p n.pu
 o:w.ownsRow B 129 4 (.slice A.o n.out.length A.co) n.out.length (GR.flat aN n.out)
 s:fU w A.s G.s G.i n.seen
 r:w.ownsRow B 133 4 (.slice A.r n.reqs.length A.cr) n.reqs.length (GR.flat aM n.reqs)
 lo:∀x,x < B->c x=0
 ck:∀x∈fp G.k n.kids,c x=1
 cp:∀x∈fp G.p n.pu,c x=2
 co:∀x,(Value.slice A.o n.out.length A.co).ownBlock=some x->c x=3
 c4:∀x∈fp G.s n.seen,c x=4
 ci:∀x∈uo G.i n.seen,c x=5
 cr:∀x,(Value.slice A.r n.reqs.length A.cr).ownBlock=some x->c x=6
 ni:(uo G.i n.seen).Nodup
theorem NO.kc {w:World} (h:NO w B n A G c) (hk:KC c k w w') (h7:6 < k):NO w' B n A G c:=
 ⟨hk.w h.k h.ck Aaa,hk.w h.p h.cp Aaa,hk.own h.o h.co Aaa,hk.seen h.s h.c4 h.ci Aaa Aaa,hk.own h.r h.cr Aaa,h.lo,h.ck,h.cp,h.co,h.c4,h.ci,h.cr,h.ni⟩
theorem uq {α:Type} {enc:α->List Value} {sz:Nat} {w:World} {a:Option Addr} {g:Nat} {l:List α} (h:GR.W enc sz w a g l):∀x∈fp g l,x < w.heap.size:=λx hx=>by
 have:=dz hx;rw [this.1];exact(h 0 this.2).2.1
theorem uP {w:World} {l:List Sn} (h:fU w a g I l):(∀x∈fp g l,x < w.heap.size)/\∀x∈uo I l,x < w.heap.size:=by
 obtain⟨T,hT,hl,hr⟩:=h;refine⟨λx hx=>uq hT x ?_,λx hx=>?_⟩
 .have:=dz hx;rw [this.1];exact dH Aaa
 .obtain⟨i,hi,rfl,hpos⟩:=uK hx;obtain⟨b,d,ht,hi2⟩:=hr i hi;exact uq hi2 _ (dH hpos)
theorem NO.recol {w:World} (h:NO w B n A G c) (hB:B<=w.heap.size) (hc:∀x,x < w.heap.size->c' x=c x):NO w B n A G c':=
 ⟨h.k,h.p,h.o,h.s,h.r,λx hx=>(hc x Aaa).trans (h.lo x hx),λx hx=>(hc x (uq h.k x hx)).trans (h.ck x hx),λx hx=>(hc x (uq h.p x hx)).trans (h.cp x hx),
  λx hx=>(hc x (h.o.lt x hx).2).trans (h.co x hx),λx hx=>(hc x ((uP h.s).1 x hx)).trans (h.c4 x hx),λx hx=>(hc x ((uP h.s).2 x hx)).trans (h.ci x hx),λx hx=>(hc x (h.r.lt x hx).2).trans (h.cr x hx),h.ni⟩
theorem NO.at {w:World} (h:NO w B n A G c):bX w A n:=by
 refine⟨h.k.at,h.p.at,?_,h.s.at,?_⟩
 .exact aiR
 .exact aiS
structure WK (w0 w:World) (wb:Nat) (n:Nd) (A:bg) (G:aR) (c:Nat->Nat) (v:Value) (L:List Mg):Prop where
 keep:aG w0 w
 blk:w.heap[wb]?=some (.cells (XB n A v) 254 (0,0))
 no:NO w w0.heap.size n A G c
 m:w.ownsRow w0.heap.size 104 7 v L.length (GR.flat lQ L)
 cm:∀x,v.ownBlock=some x->c x=7
 cw:c wb=8
theorem WK.kc {w:World} (h:WK w0 w wb n A G c v L) (hk:KC c k w w') (h8:8 < k):WK w0 w' wb n A G c v L:=
 ⟨hk.below h.keep h.no.lo Aaa h.keep.size,hk.obj h.blk (by rw [h.cw];omega),h.no.kc hk Aaa,hk.own h.m h.cm Aaa,h.cm,h.cw⟩
theorem WK.step {w:World} (h:WK w0 w wb n A G c v L) (hb:aG w w'):WK w0 w' wb n A G c v L:=h.kc (k:=9) (KC.of_below hb) Aaa
theorem WK.recol {w:World} (h:WK w0 w wb n A G c v L) (hc:∀x,x < w.heap.size->c' x=c x):WK w0 w wb n A G c' v L:=
 ⟨h.keep,h.blk,h.no.recol h.keep.size hc,h.m,λx hx=>(hc x (h.m.lt x hx).2).trans (h.cm x hx),(hc wb (ay h.blk)).trans h.cw⟩
theorem WK.lo {w:World} (h:WK w0 w wb n A G c v L):w0.heap.size<=wb:=by
 rcases aFD wb w0.heap.size with h'|h'
 .have:=h.no.lo wb h';rw [h.cw] at this;cases this
 .exact h'
def newC (B k:Nat) (c:Nat->Nat):Nat->Nat:=λx=>if B<=x then k else c x
theorem eY (h:x < B):newC B k c x=c x:=by unfold newC;rw [aEG Aaa]
theorem aY (h:B<=x):newC B k c x=k:=by unfold newC;rw [aER h]
theorem NO.kc0 {w:World} (h:NO w B n A G c) (hk:KC c 0 w w'):NO w' B n A G c:=
 ⟨hk.w h.k h.ck Aaa,hk.w h.p h.cp Aaa,hk.own h.o h.co Aaa,hk.seen h.s h.c4 h.ci Aaa Aaa,hk.own h.r h.cr Aaa,h.lo,h.ck,h.cp,h.co,h.c4,h.ci,h.cr,h.ni⟩
theorem pR (I:Nat->Nat) (l:List Sn):(uo I l).Nodup↔∀i j (hi:i < l.length) (hj:j < l.length),i < j->0 < l[i].ids.length->0 < l[j].ids.length->I i≠I j:=by
 have hg:∀i (hi:i < l.length),l.getD i default=l[i]:=λi hi=>by rw [aE7,aEB hi];rfl
 unfold uo List.Nodup;rw [List.pairwise_flatMap];constructor
 .rintro⟨_,h⟩ i j hi hj hij h1 h2 e;rw [aFx] at h;have:=h i j Aas Abg hij;grind [dH]
 .intro h;refine⟨λi _=>jh _ _,?_⟩;rw [aFx];grind [dz]
theorem Fh (l:List Int):GR.flat aW l=l.map (Value.int .i64):=by
 induction l with
 |nil=>rfl
 |cons x l ih=>rw [GR.flat_cons,ih];rfl
theorem wK (q:Rq):∀u∈aM q,u.oneCell'=true:=by
 intro u hu;simp only[aM,aET,aFt,or_false] at hu;rcases hu with rfl|rfl|rfl|rfl<;>rfl
theorem mV (l:List Rq):∀u∈GR.flat aM l,u.oneCell'=true:=by
 grind [GR.flat,wK]
set_option maxRecDepth 100000
theorem Ku {α:Type} {enc:α->List Value} {sz:Nat} (hs:∀x,(enc x).length=sz) (hz:0 < sz) {w:World} {x:Addr} {l:List α} (h:GR.At enc sz w (some x) l):∀j u,(GR.flat enc l)[j]?=some u->w.cell? (x.add j)=some u:=by
 intro j u hu
 have hj:j < l.length*sz:=by
  have:=(aFh.1 hu).1;rwa [GR.flat_length enc sz hs] at this
 have hi:j / sz < l.length:=Nat.div_lt_of_lt_mul (by rw [aGl];exact hj);have hr:j % sz < sz:=Nat.mod_lt _ hz;have ej:j / sz*sz+j % sz=j:=by rw [aGl];exact Nat.div_add_mod j sz
 obtain⟨g,off,e,hg,hc⟩:=h (j / sz) hi;have hf:=GR.flat_at enc sz hs l (j / sz) hi (j % sz) hr;rw [ej] at hf;have h2:=hc (j % sz) hr;rw [ej,<-hf,hu] at h2;injection e with e
 subst e;rw [aGo];exact h2
theorem CX (l:List jI):∀u∈GR.flat aN l,u.oneCell'=true:=by
 intro u hu;unfold GR.flat at hu;rw [aFQ] at hu;obtain⟨p,_,hp⟩:=hu;simp only[aN,aET,aFt,or_false] at hp;rcases hp with rfl|rfl|rfl|rfl<;>rfl
theorem wS {α:Type} {enc:α->List Value} {sz:Nat} {w:World} {B:Nat} {t:TypeId} {a:Option Addr} {cp:Nat} {l:List α} (h:w.ownsRow B t sz (.slice a l.length cp) l.length (GR.flat enc l)) (hl:0 < l.length):∃g rest,a=some ⟨g,0,none⟩/\B<=g/\w.heap[g]?=some (.cells (GR.flat enc l++rest).toArray t (0,0)):=by
 rcases h.2 with⟨_,hy⟩|⟨g,cp',cur,hx,hbg,hgg,hnc,hcm,hcs,htk⟩
 .omega
 simp only[aFz] at hx;obtain⟨rfl,_,rfl⟩:=hx;refine⟨g,cur.toList.drop (l.length*sz),rfl,hbg,?_⟩;rw [<-htk,aFm,Array.toArray_toList];exact hgg
theorem wu {α:Type} {enc:α->List Value} {sz:Nat} (hs:∀x,(enc x).length=sz) {w:World} {g:Nat} {l:List α} {t:TypeId} {rest:List Value} (h:w.heap[g]?=some (.cells (GR.flat enc l++rest).toArray t (0,0))) (i:Nat) (hi:i < l.length) (j:Nat) (hj:j < sz):w.cell? ⟨g,i*sz+j,none⟩=(enc l[i])[j]?:=by
 have hlt:i*sz+j < (GR.flat enc l).length:=by
  rw [GR.flat_length enc sz hs];have:(i+1)*sz<=l.length*sz:=aF1 sz hi;rw [aGt,Nat.one_mul] at this;omega
 rw [aEz w g _ _ t (0,0) h,List.getElem?_toArray,aFO hlt];exact GR.flat_at enc sz hs l i hi j hj
theorem mQ {w:World} {cs:Array Value} {fr:Nat×Nat} (h:w.heap[g]?=some (.cells cs t fr)) (hc:w.cell? ⟨g,i,none⟩=some v):Below w.heap.size w (w.setCell ⟨g,i,none⟩ v):=by
 refine⟨rfl,rfl,rfl,Aaq,λk hk=>?_⟩;by_cases e:k=g
 .subst e;have h1:w.cell? ⟨k,i,none⟩=cs[i]?:=aEz w k i cs t fr h;rw [hc] at h1;unfold World.setCell;simp only[Array.getElem?_modify];rw [aER trivial,h]
  have h2:cs.setIfInBounds i v=cs:=by
   apply Array.ext_getElem?
   intro q;rw [Array.getElem?_setIfInBounds];split
   .rename_i e
    subst e;split
    .exact h1
    .rw [aFp Aaa]
   .rfl
  simp[h2]
 .exact aEU _ _ _ _ e
theorem abz (a:Option Addr) (cap:Nat) (l:List jI) (w:World) (hl:l.length<=1048600) (hv:∀u∈GR.flat aN l,u.oneCell'=true) (ha:GR.At aN 4 w a l):
 Calls prog 111 #[.slice a l.length cap] w λe w'=>∃v,e= .returned v/\w'.ownsRow w.heap.size 129 4 v l.length (GR.flat aN l)/\aG w w':=by
 obtain⟨i0,hi,hz0,hz1,hz2⟩:=aEY FT;have q22:∀(w:World) (a:Option Addr) (n c n' c':Nat),(binOp .eql 49 (.slice a n c) (.slice none n' c')).run prog w= .ok (.bool a.isNone) w:=λw a n c n' c'=>aFT w _ _ a n c n' c' underlying49
 have hlit:(w.alloc (.cells #[] 129)).ownsRow w.heap.size 129 4 (.slice (some ⟨w.heap.size,0,none⟩) 0 0) 0 []:=aFb (base:=w.heap.size) (e:=129) (size:=4) w #[] 0 (aEx _) Aag rfl;cases a with
 |none=>
  have hl0:l=[]:=GR.none_nil ha;subst hl0;clear ha hlit hv;go_in
  exact TH
 |some x=>
  have HN:=Hq (Ku aX Aaa (GR.At.below ha (au w (.cells #[] 129))));have HV:=Hq hv;clear ha hv;go_in
  go_wp2_with (at_builtin;refine aFf _ rfl _ _ 49 rfl w.heap.size 129 i0 (.agg (gB 0 0 ByteArray.empty 0)) 4 40 underlying49 hi hz0 hz1 hz2 rfl Aag _ 0 [] rfl hlit x l.length cap (GR.flat aN l) rfl ?c0 ?c1 ?c2 ?c3 ?c4 ?c5 ?_)
  case c0=>exact GR.flat_length aN 4 aX l
  case c1=>exact HN
  case c2=>exact HV
  case c3=>unfold maxLen;omega
  case c4=>omega
  case c5=>simp
  intro v' w1 hown' hgrow _;have HO:=Hq (show w1.ownsRow w.heap.size 129 4 v' l.length (GR.flat aN l) by simpa using hown');exact XV
theorem ae3 (a:Option Addr) (cap:Nat) (l:List Rq) (w:World) (hl:l.length<=1048600) (hv:∀u∈GR.flat aM l,u.oneCell'=true) (ha:GR.At aM 4 w a l):
 Calls prog 113 #[.slice a l.length cap] w λe w'=>∃v,e= .returned v/\w'.ownsRow w.heap.size 133 4 v l.length (GR.flat aM l)/\aG w w':=by
 obtain⟨i0,hi,hz0,hz1,hz2⟩:=aEY Ai;have q22:∀(w:World) (a:Option Addr) (n c n' c':Nat),(binOp .eql 51 (.slice a n c) (.slice none n' c')).run prog w= .ok (.bool a.isNone) w:=λw a n c n' c'=>aFT w _ _ a n c n' c' underlying51
 have hlit:(w.alloc (.cells #[] 133)).ownsRow w.heap.size 133 4 (.slice (some ⟨w.heap.size,0,none⟩) 0 0) 0 []:=aFb (base:=w.heap.size) (e:=133) (size:=4) w #[] 0 (aEx _) Aag rfl;cases a with
 |none=>
  have hl0:l=[]:=GR.none_nil ha;subst hl0;clear ha hlit hv;go_in
  exact TH
 |some x=>
  have HN:=Hq (Ku bQ Aaa (GR.At.below ha (au w (.cells #[] 133))));have HV:=Hq hv;clear ha hv;go_in
  go_wp2_with (at_builtin;refine aFf _ rfl _ _ 51 rfl w.heap.size 133 i0 (.agg (gJ 0 ByteArray.empty 0 0)) 4 40 underlying51 hi hz0 hz1 hz2 rfl Aag _ 0 [] rfl hlit x l.length cap (GR.flat aM l) rfl ?c0 ?c1 ?c2 ?c3 ?c4 ?c5 ?_)
  case c0=>exact GR.flat_length aM 4 bQ l
  case c1=>exact HN
  case c2=>exact HV
  case c3=>unfold maxLen;omega
  case c4=>omega
  case c5=>simp
  intro v' w1 hown' hgrow _;have HO:=Hq (show w1.ownsRow w.heap.size 133 4 v' l.length (GR.flat aM l) by simpa using hown');exact XV
theorem ae2 (a:Option Addr) (cap:Nat) (l:List R3) (w:World) (hl:l.length<=1048600) (hv:∀u∈GR.flat eF l,u.oneCell'=true) (ha:GR.At eF 3 w a l):
 Calls prog 112 #[.slice a l.length cap] w λe w'=>∃v,e= .returned v/\w'.ownsRow w.heap.size 144 3 v l.length (GR.flat eF l)/\aG w w':=by
 obtain⟨i0,hi,hz0,hz1,hz2⟩:=aEY FQ;have q22:∀(w:World) (a:Option Addr) (n c n' c':Nat),(binOp .eql 50 (.slice a n c) (.slice none n' c')).run prog w= .ok (.bool a.isNone) w:=λw a n c n' c'=>aFT w _ _ a n c n' c' underlying50
 have hlit:(w.alloc (.cells #[] 144)).ownsRow w.heap.size 144 3 (.slice (some ⟨w.heap.size,0,none⟩) 0 0) 0 []:=aFb (base:=w.heap.size) (e:=144) (size:=3) w #[] 0 (aEx _) Aag rfl;cases a with
 |none=>
  have hl0:l=[]:=GR.none_nil ha;subst hl0;clear ha hlit hv;go_in
  exact TH
 |some x=>
  have HN:=Hq (Ku bf Aaa (GR.At.below ha (au w (.cells #[] 144))));have HV:=Hq hv;clear ha hv;go_in
  go_wp2_with (at_builtin;refine aFf _ rfl _ _ 50 rfl w.heap.size 144 i0 (.agg #[.int .i64 0,.int .i64 0,.slice none 0 0]) 3 40 underlying50 hi hz0 hz1 hz2 rfl Aag _ 0 [] rfl hlit x l.length cap (GR.flat eF l) rfl ?c0 ?c1 ?c2 ?c3 ?c4 ?c5 ?_)
  case c0=>exact GR.flat_length eF 3 bf l
  case c1=>exact HN
  case c2=>exact HV
  case c3=>unfold maxLen;omega
  case c4=>omega
  case c5=>simp
  intro v' w1 hown' hgrow _;have HO:=Hq (show w1.ownsRow w.heap.size 144 3 v' l.length (GR.flat eF l) by simpa using hown');exact XV
theorem ady {w:World} {l:List Sn} (h:gT w a l):∃T:List R3,T.length=l.length/\GR.At eF 3 w a T/\(∀u∈GR.flat eF T,u.oneCell'=true)/\∀i (hi:i < l.length),∃b c,T[i]?=some ⟨l[i].f,l[i].l,.slice b l[i].ids.length c⟩/\aK w b l[i].ids:=by
 have hk:∀k,k<=l.length->∃T:List R3,T.length=k/\(∀i (hi:i < T.length) (hl:i < l.length),∃b c,T[i]=⟨l[i].f,l[i].l,.slice b l[i].ids.length c⟩/\aK w b l[i].ids/\∃g off,a=some ⟨g,off,none⟩/\g < w.heap.size/\w.cell? ⟨g,off+i*3,none⟩=some (.int .i64 l[i].f)/\w.cell? ⟨g,off+i*3+1,none⟩=some (.int .i64 l[i].l)/\w.cell? ⟨g,off+i*3+2,none⟩=some (.slice b l[i].ids.length c)):=by
  intro k;induction k with
  |zero=>intro _;exact⟨[],rfl,λi hi=>Aau⟩
  |succ k ih=>
   intro hk;obtain⟨T,hT,hr⟩:=ih Aaa;obtain⟨g,off,b,c,e,hg,h0,h1,h2,h3⟩:=h k Aaa;refine⟨T++[⟨l[k].f,l[k].l,.slice b l[k].ids.length c⟩],by simp[hT],λi hi hl=>?_⟩;by_cases hik:i < T.length
   .rw [List.getElem_append_left hik];exact hr i hik hl
   .have hi':i=k:=Abq
    subst hi';refine⟨b,c,?_,h3,g,off,e,hg,h0,h1,h2⟩;rw [List.getElem_append_right Aaa];simp[hT]
 obtain⟨T,hT,hr⟩:=hk l.length (aEx _);refine⟨T,hT,λi hi=>?_,λu hu=>?_,λi hi=>?_⟩
 .obtain⟨b,c,e,_,g,off,ea,hg,h0,h1,h2⟩:=hr i hi Aaa;refine⟨g,off,ea,hg,λj hj=>?_⟩;rw [e];match j,hj with
  |0,_=>exact h0
  |1,_=>rw [<-aE5];exact h1
  |2,_=>rw [<-aE5];exact h2
 .unfold GR.flat at hu;rw [aFQ] at hu;obtain⟨p,hp,hq⟩:=hu;obtain⟨i,hi,rfl⟩:=aFE.1 hp;obtain⟨b,c,e,_⟩:=hr i hi Aaa;rw [e] at hq;simp only[eF,aET,aFt,or_false] at hq;rcases hq with rfl|rfl|rfl<;>rfl
 .obtain⟨b,c,e,hI,_⟩:=hr i Aaa hi;exact⟨b,c,by rw [aEB Aaa,e],hI⟩
theorem su {a:Nat} {l m:List Nat} (hl:l.Nodup) (hm:m.Nodup) (h1:∀x∈l,c x=a) (h2:∀x∈m,c x≠a):(l++m).Nodup:=by
 rw [aFY];exact⟨hl,hm,λx hx y hy e=>h2 y hy (by rw [<-e];exact h1 x hx)⟩
theorem NO.full {w:World} (h:NO w B n A G c):
 ∃G2,rT w A G2 n/\G2.Sep n B w.heap.size/\∀x∈G2.all n,c x≠0/\c x<=6:=by
 obtain⟨_,_,go,eo,hWo,hro,hoo⟩:=GR.W.of_own (enc:=aN) aX h.o;cases eo
 obtain⟨_,_,gr,er,hWr,hrr,hor⟩:=GR.W.of_own (enc:=aM) bQ h.r;cases er
 have c1:=h.ck;have c2:=h.cp;have c3:∀x∈fp go n.out,c x=3:=λx hx=>h.co x (hoo x hx)
 have c4:=h.c4;have c5:=h.ci;have c6:∀x∈fp gr n.reqs,c x=6:=λx hx=>h.cr x (hor x hx)
 have Ml:∀x∈aR.all ⟨G.k,G.p,go,G.s,gr,G.i⟩ n,c x≠0/\c x<=6:=λx hx=>by
  rcases aR.mem_all.1 hx with h1|h1|h1|h1|h1|h1
  .have:=c1 x h1;omega
  .have:=c2 x h1;omega
  .have:=c3 x h1;omega
  .have:=c4 x h1;omega
  .have:=c5 x h1;omega
  .have:=c6 x h1;omega
 refine⟨⟨G.k,G.p,go,G.s,gr,G.i⟩,⟨h.k,h.p,hWo,h.s,hWr⟩,⟨?_,λx hx=>⟨?_,?_⟩⟩,Ml⟩
 .unfold aR.all;refine su (c:=c) (a:=1) (jh _ _) ?_ c1 (λx hx=>?_)
  .refine su (c:=c) (a:=2) (jh _ _) ?_ c2 (λx hx=>?_)
   .refine su (c:=c) (a:=3) (jh _ _) ?_ c3 (λx hx=>?_)
    .refine su (c:=c) (a:=4) (jh _ _) ?_ c4 (λx hx=>?_)
     .refine su (c:=c) (a:=5) h.ni (jh _ _) c5 (λx hx=>?_);have:=c6 x hx;omega
     .rcases aE0.1 hx with h1|h1
      .have:=c5 x h1;omega
      .have:=c6 x h1;omega
    .rcases aE0.1 hx with h1|h1
     .have:=c4 x h1;omega
     .exact ah3
   .rcases aE0.1 hx with h1|h1
    .have:=c3 x h1;omega
    .exact ai3
  .rcases aE0.1 hx with h1|h1
   .have:=c2 x h1;omega
   .rcases aE0.1 h1 with h1|h1
    .have:=c3 x h1;omega
    .exact ai3
 .by_cases hlt:x < B
  .have:=h.lo x hlt;have:=Ml x hx;omega
  .omega
 .rcases aR.mem_all.1 hx with h1|h1|h1|h1|h1|h1
  .exact uq h.k x h1
  .exact uq h.p x h1
  .exact uq hWo x h1
  .exact(uP h.s).1 x h1
  .exact(uP h.s).2 x h1
  .exact uq hWr x h1
structure WO (w:World) (b:Option Addr) (c x:Nat) (ids:List Int):Prop where
 W:GR.W aW 1 w b x ids
 e:ids=[]->c=0
 o:ids≠[]->w.ownsRow 0 3 1 (.slice b ids.length c) ids.length (GR.flat aW ids)
theorem WO.of_own {w:World} {c:Nat} (hW:GR.W aW 1 w b x ids) (h:w.ownsRow B 3 1 (.slice b ids.length c) ids.length (GR.flat aW ids)) (h0:ids=[]->c=0):WO w b c x ids:=
 ⟨hW,h0,λ_=>GR.own_lower h (aEN _)⟩
theorem WO.blk {w:World} {c y:Nat} (h:WO w b c x ids) (hn:ids≠[]) (hy:(Value.slice b ids.length c).ownBlock=some y):y=x/\0 < ids.length:=by
 have hpos:0 < ids.length:=by
  cases ids with
  |nil=>exact absurd rfl hn
  |cons _ _=>simp
 obtain⟨e,_,_⟩:=h.W 0 hpos;subst e;exact⟨by simpa [Value.ownBlock] using hy.symm,hpos⟩
theorem WO.keeps {w:World} {c:Nat} (h:WO w b c x ids) (hk:aC F w w') (hd:∀y∈fp x ids,y∉F):WO w' b c x ids:=by
 refine⟨h.W.keeps hk hd,h.e,λhn=>⟨(h.o hn).1,?_⟩⟩;rcases(h.o hn).2 with h1|⟨g,cap,cur,hv,hb,hgg,rest⟩
 .exact .inl h1
 .refine .inr ⟨g,cap,cur,hv,hb,hk.obj hgg (λhm=>?_),rest⟩;have h2:=h.blk hn (y:=g) (by rw [hv];rfl);rw [h2.1] at hm;exact hd x (dH h2.2) hm
theorem WO.below {w:World} {c:Nat} (h:WO w b c x ids) (hb:aG w w'):WO w' b c x ids:=h.keeps (F:=[]) (aC.of_below hb) (λ_ _=>Aac)
theorem WO.blocks {w:World} {c:Nat} (h:WO w b c x ids) (hs:w.heap.size<=w'.heap.size) (hb:∀y∈fp x ids,w'.heap[y]?=w.heap[y]?):WO w' b c x ids:=by
 refine⟨λi hi=>?_,h.e,λhn=>⟨(h.o hn).1,?_⟩⟩
 .obtain⟨e,hg,hc⟩:=h.W i hi;have hbx:=hb x (dH Aaa);exact aij
 .rcases(h.o hn).2 with h1|⟨g,cap,cur,hv,hB,hgg,rest⟩
  .exact .inl h1
  .have h2:=h.blk hn (y:=g) (by rw [hv];rfl);exact .inr ⟨g,cap,cur,hv,hB,(by rw [h2.1];rw [h2.1] at hgg;exact(hb x (dH h2.2)).trans hgg),rest⟩
def aaG (w:World) (l:List Sn) (T:List R3) (I:Nat->Nat):Prop:=T.length=l.length/\∀i (hi:i < l.length),∃b c,T[i]?=some ⟨l[i].f,l[i].l,.slice b l[i].ids.length c⟩/\WO w b c (I i) l[i].ids
def oH (w:World) (a:Option Addr) (g:Nat) (I:Nat->Nat) (l:List Sn):Prop:=(∃T,GR.W eF 3 w a g T/\aaG w l T I)/\(0 < l.length->∃cs,w.heap[g]?=some (.cells cs 144 (0,0)))
theorem oH.w {w:World} {l:List Sn} (h:oH w a g I l):fU w a g I l:=by
 obtain⟨⟨T,hT,hl,hr⟩,_⟩:=h;refine⟨T,hT,hl,λi hi=>?_⟩;obtain⟨b,c,ht,ho⟩:=hr i hi;exact⟨b,c,ht,ho.W⟩
theorem oH.blocks {w:World} {l:List Sn} (h:oH w a g I l) (hs:w.heap.size<=w'.heap.size) (hb:∀x∈fp g l,w'.heap[x]?=w.heap[x]?) (hI:∀x∈uo I l,w'.heap[x]?=w.heap[x]?):oH w' a g I l:=by
 obtain⟨⟨T,hT,hl,hr⟩,hy⟩:=h;refine⟨⟨T,λi hi=>?_,hl,λi hi=>?_⟩,λhp=>?_⟩
 .obtain⟨e,hg,hc⟩:=hT i hi;have hbx:=hb g (dH Aaa);exact aij
 .obtain⟨b,c,ht,ho⟩:=hr i hi;exact⟨b,c,ht,ho.blocks hs (λx hx=>hI x (jE hi x hx))⟩
 .grind [dH]
theorem KC.seenQ {w:World} {l:List Sn} (h:KC c k w w') (hs:oH w a g I l) (h4:∀x∈fp g l,c x=4) (h5:∀x∈uo I l,c x=5) (hk4:4≠k) (hk5:5≠k):oH w' a g I l:=
 hs.blocks h.size (λx hx=>h.block x ((uP hs.w).1 x hx) (by rw [h4 x hx];exact hk4)) (λx hx=>h.block x ((uP hs.w).2 x hx) (by rw [h5 x hx];exact hk5))
structure NQ (w:World) (B:Nat) (n:Nd) (A:bg) (G:aR) (c:Nat->Nat):Prop extends NO w B n A G c where
 sq:oH w A.s G.s G.i n.seen
theorem NQ.kc {w:World} (h:NQ w B n A G c) (hk:KC c k w w') (h7:6 < k):NQ w' B n A G c:=
 ⟨h.toNO.kc hk h7,hk.seenQ h.sq h.c4 h.ci Aaa Aaa⟩
theorem NQ.recol {w:World} (h:NQ w B n A G c) (hB:B<=w.heap.size) (hc:∀x,x < w.heap.size->c' x=c x):NQ w B n A G c':=⟨h.toNO.recol hB hc,h.sq⟩
structure RMc (w:World) (A:bg) (n:Nd) (gk gs:Nat) (I:Nat->Nat) (c:Nat->Nat):Prop where
 k:GR.W aW 1 w A.k gk n.kids
 p:aH w A.p n.pu
 o:w.ownsRow 0 129 4 (.slice A.o n.out.length A.co) n.out.length (GR.flat aN n.out)
 s:oH w A.s gs I n.seen
 r:w.ownsRow 0 133 4 (.slice A.r n.reqs.length A.cr) n.reqs.length (GR.flat aM n.reqs)
 ck:∀x∈fp gk n.kids,c x=1
 cp:∀g,A.p.map (λy=>y.block)=some g->0 < n.pu.length->c g=2
 co:∀x,(Value.slice A.o n.out.length A.co).ownBlock=some x->c x=3
 c4:∀x∈fp gs n.seen,c x=4
 ci:∀x∈uo I n.seen,c x=5
 cr:∀x,(Value.slice A.r n.reqs.length A.cr).ownBlock=some x->c x=6
 ni:(uo I n.seen).Nodup
def RM (w:World) (A:bg) (n:Nd):Prop:=∃gk gs I c,RMc w A n gk gs I c
theorem RMc.at {w:World} (h:RMc w A n gk gs I c):bX w A n:=by
 refine⟨h.k.at,h.p,?_,h.s.w.at,?_⟩
 .exact aiR
 .exact aiS
theorem RM.at {w:World} (h:RM w A n):bX w A n:=by
 obtain⟨_,_,_,_,h⟩:=h;exact h.at
theorem RM.of {w:World} (k:GR.W aW 1 w A.k gk n.kids) (ck:∀x∈fp gk n.kids,c x=1) (s:oH w A.s gs I n.seen) (c4:∀x∈fp gs n.seen,c x=4) (ci:∀x∈uo I n.seen,c x=5) (ni:(uo I n.seen).Nodup) (p:aH w A.p n.pu) (cp:∀g,A.p.map (λy=>y.block)=some g->0 < n.pu.length->c g=2\/6 < c g) (o:w.ownsRow Bo 129 4 (.slice A.o n.out.length A.co) n.out.length (GR.flat aN n.out)) (co:∀x,(Value.slice A.o n.out.length A.co).ownBlock=some x->c x=3\/6 < c x) (r:w.ownsRow Br 133 4 (.slice A.r n.reqs.length A.cr) n.reqs.length (GR.flat aM n.reqs)) (cr:∀x,(Value.slice A.r n.reqs.length A.cr).ownBlock=some x->c x=6\/6 < c x) (po:∀g,A.p.map (λy=>y.block)=some g->0 < n.pu.length->6 < c g->(Value.slice A.o n.out.length A.co).ownBlock≠some g/\(Value.slice A.r n.reqs.length A.cr).ownBlock≠some g) (or:∀x,(Value.slice A.o n.out.length A.co).ownBlock=some x->6 < c x->(Value.slice A.r n.reqs.length A.cr).ownBlock≠some x):RM w A n:=by
 have po2:∀g,A.p.map (λy=>y.block)=some g->0 < n.pu.length->(Value.slice A.o n.out.length A.co).ownBlock≠some g/\(Value.slice A.r n.reqs.length A.cr).ownBlock≠some g:=λg hg hp=>by grind
 have or2:∀x,(Value.slice A.o n.out.length A.co).ownBlock=some x->(Value.slice A.r n.reqs.length A.cr).ownBlock≠some x:=λx hx=>by grind
 refine⟨gk,gs,I,λx=>if A.p.map (λy=>y.block)=some x/\0 < n.pu.length then 2 else if (Value.slice A.o n.out.length A.co).ownBlock=some x then 3 else if (Value.slice A.r n.reqs.length A.cr).ownBlock=some x then 6 else c x,?_⟩;have same:∀x,c x=1\/c x=4\/c x=5->(if A.p.map (λy=>y.block)=some x/\0 < n.pu.length then 2 else if (Value.slice A.o n.out.length A.co).ownBlock=some x then 3 else if (Value.slice A.r n.reqs.length A.cr).ownBlock=some x then 6 else c x)=c x:=λx hx=>by grind
 refine⟨k,p,GR.own_lower o (aEN _),s,GR.own_lower r (aEN _),λx hx=>?_,λg hg hp=>?_,λx hx=>?_,λx hx=>?_,λx hx=>?_,λx hx=>?_,ni⟩
 .grind
 .grind
 .grind
 .grind
 .grind
 .grind
theorem aaH {α:Type} {enc:α->List Value} {sz:Nat} {w:World} {a:Option Addr} {g:Nat} {l:List α} (h:GR.W enc sz w a g l) (hp:0 < l.length):a.map (λy=>y.block)=some g:=by
 obtain⟨e,_,_⟩:=h 0 hp;rw [e];rfl
theorem NQ.rm {w:World} (h:NQ w B n A G c):RM w A n:=
 RM.of h.k h.ck h.sq h.c4 h.ci h.ni h.p.at (λg hg hp=>by rw [aaH h.p hp] at hg;cases hg;exact .inl (h.cp _ (dH hp))) h.o (λx hx=> .inl (h.co x hx)) h.r (λx hx=> .inl (h.cr x hx))
  (λg hg hp h6=>by rw [aaH h.p hp] at hg;cases hg;have:=h.cp _ (dH hp);omega) (λx hx h6=>by have:=h.co x hx;omega)
theorem sH {α:Type} {enc:α->List Value} {sz B:Nat} {w:World} {e:TypeId} {a:Option Addr} {c g:Nat} {l:List α} (h:w.ownsRow B e sz (.slice a l.length c) l.length (GR.flat enc l)) (hg:a.map (λy=>y.block)=some g):(Value.slice a l.length c).ownBlock=some g:=by
 rcases h.2 with⟨hv,_⟩|⟨g',cap,cur,hv,_⟩
 .simp only[aFz] at hv;rw [hv.1] at hg;cases hg
 .simp only[aFz] at hv;rw [hv.1] at hg ⊢;cases hg
  rfl
theorem uM {w:World} (h:w.ownsRow B e sz v k xs) (hx:v.ownBlock=some x):B<=x:=by
 rcases h.2 with⟨rfl,_⟩|⟨g,cap,cur,rfl,hb,_⟩
 .simp[Value.ownBlock] at hx
 .have:g=x:=Abj
  omega
theorem Cn {w:World} (h:w.ownsRow B e sz v k xs) (hx:v.ownBlock=some x):x < w.heap.size:=by
 rcases h.2 with⟨rfl,_⟩|⟨g,cap,cur,rfl,hb,hg,_⟩
 .simp[Value.ownBlock] at hx
 .have:g=x:=Abj
  rw [<-this];exact ay hg
theorem NQ.put {w:World} (h:NQ w B n A G c) (hc:NQ X B' n A G c') (n':Nd) (A':bg) (ek:n'.kids=n.kids) (es:n'.seen=n.seen) (ak:A'.k=A.k) (ea:A'.s=A.s) (p:aH w A'.p n'.pu) (cp:∀g,A'.p.map (λy=>y.block)=some g->0 < n'.pu.length->c' g=2\/6 < c' g) (o:w.ownsRow Bo 129 4 (.slice A'.o n'.out.length A'.co) n'.out.length (GR.flat aN n'.out)) (co:∀x,(Value.slice A'.o n'.out.length A'.co).ownBlock=some x->c' x=3\/6 < c' x) (r:w.ownsRow Br 133 4 (.slice A'.r n'.reqs.length A'.cr) n'.reqs.length (GR.flat aM n'.reqs)) (cr:∀x,(Value.slice A'.r n'.reqs.length A'.cr).ownBlock=some x->c' x=6\/6 < c' x) (po:∀g,A'.p.map (λy=>y.block)=some g->0 < n'.pu.length->6 < c' g->(Value.slice A'.o n'.out.length A'.co).ownBlock≠some g/\(Value.slice A'.r n'.reqs.length A'.cr).ownBlock≠some g) (or:∀x,(Value.slice A'.o n'.out.length A'.co).ownBlock=some x->6 < c' x->(Value.slice A'.r n'.reqs.length A'.cr).ownBlock≠some x):RM w A' n':=
 RM.of (c:=c') (gk:=G.k) (gs:=G.s) (I:=G.i) (by rw [ek,ak];exact h.k) (by rw [ek];exact hc.ck) (by rw [es,ea];exact h.sq) (by rw [es];exact hc.c4) (by rw [es];exact hc.ci) (by rw [es];exact hc.ni) p cp o co r cr po or
theorem NQ.cpB {w:World} (h:NQ w B n A G c) (hc:NQ X B' n A G c'):∀g,A.p.map (λy=>y.block)=some g->0 < n.pu.length->c' g=2:=λg hg hp=>by
 rw [aaH h.p hp] at hg;cases hg
 exact hc.cp _ (dH hp)
theorem WK.start {y W:World} (hb:aG w0 y) (hN:NO y w0.heap.size n A G c) (hs:y.heap.size<=wb) (hY:aG y W) (hblk:W.heap[wb]?=some (.cells (XB n A (.slice none 0 0)) 254 (0,0))):WK w0 W wb n A G (newC y.heap.size 8 c) (.slice none 0 0) []:=by
 have h1:=(hN.recol (c':=newC y.heap.size 8 c) hb.size (λx hx=>eY hx)).kc (k:=9) (KC.of_below hY) Aaa;exact⟨hb.trans (hY.mono hb.size),hblk,h1,World.ownsRow_nil _ _ _ _,(λx hx=>by cases hx),aY hs⟩
theorem WK.mute {w:World} (h:WK w0 w wb n A G c v L):WK w0 (w.setCell ⟨wb,9,none⟩ (.slice none 0 0)) wb n A G c (.slice none 0 0) []:=by
 have hk:KC c 8 w (w.setCell ⟨wb,9,none⟩ (.slice none 0 0)):=KC.keeps (aC.set _) (λx hx=>by rw [aEM.1 hx];exact h.cw);exact⟨h.keep.setCell (p:=⟨wb,9,none⟩) h.lo _,aT h.blk 9 _,h.no.kc hk Aaa,World.ownsRow_nil _ _ _ _,(λx hx=>by cases hx),h.cw⟩
def uQ (I:Nat->Nat) (k gi:Nat):Nat->Nat:=λi=>if i=k then gi else I i
theorem fU.store {w:World} {l:List Sn} (h:fU w a g I l) (k:Nat) (hk:k < l.length) (s:Sn) (b:Option Addr) (cc gi:Nat) (hi:GR.W aW 1 w b gi s.ids) (hg4:∀x∈uo I l,x≠g) (hgi:∀x∈fp gi s.ids,x≠g):
 fU (GR.setW w g (k*3) [.int .i64 s.f,.int .i64 s.l,.slice b s.ids.length cc]) a g (uQ I k gi) (l.set k s):=by
 obtain⟨T,hT,hl,hr⟩:=h;have Te:k < T.length:=Aaa
 have hkp:=eP (g:=g) [.int .i64 s.f,.int .i64 s.l,.slice b s.ids.length cc] w (k*3);refine⟨T.set k ⟨s.f,s.l,.slice b s.ids.length cc⟩,GR.W.set bf hT k ⟨s.f,s.l,.slice b s.ids.length cc⟩ Te,by simpa using hl,λi hi'=>?_⟩;have hil:i < l.length:=by simpa using hi'
 by_cases e:i=k
 .subst e;refine⟨b,cc,?_,?_⟩
  .grind
  .exact aiJ
 .obtain⟨b',c',ht,hi2⟩:=hr i hil;refine⟨b',c',?_,?_⟩
  .grind
  .exact ais
theorem KC.setW {o:Nat} {w:World} (vs:List Value) (hc:c g=k):KC c k w (GR.setW w g o vs):=KC.keeps (eP vs w o) (λx hx=>by have:x=g:=Aad;rw [this];exact hc)
end Go.Proofs.YtfachhcijcjbpaaGreatDoor
