/- Parts. -/
import Derived.Test.YtbolgdleijjgfaaGreatDoorRf26
import Derived.Test.YtbolgdleijjgfaaGreatDoorRf27
namespace Go.Proofs.YtbolgdleijjgfaaGreatDoor
open Go.Proofs.Tryz
set_option maxHeartbeats 8000000
set_option maxRecDepth 100000
open Go.RowKit
open Mth
variable {w X Y W5 wr w' W:World} {B g i sz k cs nb B':Nat} {a:Option Addr} {v b0 b1 b2 b3 b4 b5 b6 b7 b8:Value} {t:TypeId} {l:List Sn} {n:Nd} {α:Type} {enc:α->List Value} {T T2:List R3} {I c:Nat->Nat} {xs:List Value} {m:Mg} {s0:Sn} {A:bq} {G:aN}
theorem Gi (hs:∀x,(enc x).length=sz) (hz:0 < sz) {x:Addr} {l:List α} (h:GR.At enc sz w (some x) l):∀j u,(GR.flat enc l)[j]?=some u->w.cell? (x.add j)=some u:=by
 intro j u hu
 have hj:j < l.length*sz:=by
  have:=(aFK.1 hu).1;rwa [GR.flat_length enc sz hs] at this
 have hi:j / sz < l.length:=Nat.div_lt_of_lt_mul (by rw [aGL];exact hj);have hr:j % sz < sz:=Nat.mod_lt _ hz;have ej:j / sz*sz+j % sz=j:=by rw [aGL];exact Nat.div_add_mod j sz
 obtain⟨g,off,e,hg,hc⟩:=h (j / sz) hi;have hf:=GR.flat_at enc sz hs l (j / sz) hi (j % sz) hr;rw [ej] at hf;have h2:=hc (j % sz) hr;rw [ej,<-hf,hu] at h2;injection e with e
 subst e;rw [aGN];exact h2
theorem Dj (l:List jI):∀u∈GR.flat aM l,u.oneCell'=true:=by
 intro u hu;unfold GR.flat at hu;rw [aGf] at hu;obtain⟨p,_,hp⟩:=hu;simp only[aM,aFd,aFW,or_false] at hp;rcases hp with rfl|rfl|rfl|rfl<;>rfl
theorem xQ {cp:Nat} {l:List α} (h:w.ownsRow B t sz (.slice a l.length cp) l.length (GR.flat enc l)) (hl:0 < l.length):∃g rest,a=some ⟨g,0,none⟩/\B<=g/\w.heap[g]?=some (.cells (GR.flat enc l++rest).toArray t (0,0)):=by
 rcases h.2 with⟨_,hy⟩|⟨g,cp',cur,hx,hbg,hgg,hnc,hcm,hcs,htk⟩
 .omega
 simp only[aFN] at hx;obtain⟨rfl,_,rfl⟩:=hx;refine⟨g,cur.toList.drop (l.length*sz),rfl,hbg,?_⟩;rw [<-htk,aFJ,Array.toArray_toList];exact hgg
theorem wV (hs:∀x,(enc x).length=sz) {l:List α} {rest:List Value} (h:w.heap[g]?=some (.cells (GR.flat enc l++rest).toArray t (0,0))) (i:Nat) (hi:i < l.length) (j:Nat) (hj:j < sz):w.cell? ⟨g,i*sz+j,none⟩=(enc l[i])[j]?:=by
 have hlt:i*sz+j < (GR.flat enc l).length:=by
  rw [GR.flat_length enc sz hs];have:(i+1)*sz<=l.length*sz:=aGk sz hi;rw [aGC,Nat.one_mul] at this;omega
 rw [aE1 w g _ _ t (0,0) h,aGo,aGd hlt];exact GR.flat_at enc sz hs l i hi j hj
theorem nL {cs:Array Value} {fr:Nat×Nat} (h:w.heap[g]?=some (.cells cs t fr)) (hc:w.cell? ⟨g,i,none⟩=some v):Below w.heap.size w (w.setCell ⟨g,i,none⟩ v):=by
 refine⟨rfl,rfl,rfl,Aaq,λk hk=>?_⟩;by_cases e:k=g
 .subst e;have h1:w.cell? ⟨k,i,none⟩=cs[i]?:=aE1 w k i cs t fr h;rw [hc] at h1;unfold World.setCell;simp only[Array.getElem?_modify];rw [aFc trivial,h]
  have h2:cs.setIfInBounds i v=cs:=by
   apply Array.ext_getElem?
   intro q;rw [Array.getElem?_setIfInBounds];split
   .rename_i e
    subst e;split
    .exact h1
    .rw [aFO Aaa]
   .rfl
  simp[h2]
 .exact aFe _ _ _ _ e
theorem abt (a:Option Addr) (cap:Nat) (l:List jI) (w:World) (hl:l.length<=1048600) (hv:∀u∈GR.flat aM l,u.oneCell'=true) (ha:GR.At aM 4 w a l):
 Calls prog 107 #[.slice a l.length cap] w λe w'=>∃v,e= .returned v/\w'.ownsRow w.heap.size 145 4 v l.length (GR.flat aM l)/\aH w w':=by
 obtain⟨i0,hi,hz0,hz1,hz2⟩:=aFt F5;have q22:∀(w:World) (a:Option Addr) (n c n' c':Nat),(binOp .eql 35 (.slice a n c) (.slice none n' c')).run prog w= .ok (.bool a.isNone) w:=λw a n c n' c'=>aGi w _ _ a n c n' c' underlying35
 have hlit:(w.alloc (.cells #[] 145)).ownsRow w.heap.size 145 4 (.slice (some ⟨w.heap.size,0,none⟩) 0 0) 0 []:=aFC (base:=w.heap.size) (e:=145) (size:=4) w #[] 0 (aER _) Aae rfl;cases a with
 |none=>
  have hl0:l=[]:=GR.none_nil ha;subst hl0;clear ha hlit hv;go_in
  exact Tk
 |some x=>
  have HN:=Hq (Gi aT Aaa (GR.At.below ha (au w (.cells #[] 145))));have HV:=Hq hv;clear ha hv;go_in
  go_wp2_with (at_builtin;refine aFL _ rfl _ _ 35 rfl w.heap.size 145 i0 (.agg (gN 0 0 ByteArray.empty 0)) 4 40 underlying35 hi hz0 hz1 hz2 rfl Aae _ 0 [] rfl hlit x l.length cap (GR.flat aM l) rfl ?c0 ?c1 ?c2 ?c3 ?c4 ?c5 ?_)
  case c0=>exact GR.flat_length aM 4 aT l
  case c1=>exact HN
  case c2=>exact HV
  case c3=>unfold maxLen;omega
  case c4=>omega
  case c5=>simp
  intro v' w1 hown' hgrow _;have HO:=Hq (show w1.ownsRow w.heap.size 145 4 v' l.length (GR.flat aM l) by simpa using hown');exact XW
theorem aeR (a:Option Addr) (cap:Nat) (l:List Rq) (w:World) (hl:l.length<=1048600) (hv:∀u∈GR.flat aL l,u.oneCell'=true) (ha:GR.At aL 4 w a l):
 Calls prog 109 #[.slice a l.length cap] w λe w'=>∃v,e= .returned v/\w'.ownsRow w.heap.size 148 4 v l.length (GR.flat aL l)/\aH w w':=by
 obtain⟨i0,hi,hz0,hz1,hz2⟩:=aFt AO;have q22:∀(w:World) (a:Option Addr) (n c n' c':Nat),(binOp .eql 37 (.slice a n c) (.slice none n' c')).run prog w= .ok (.bool a.isNone) w:=λw a n c n' c'=>aGi w _ _ a n c n' c' underlying37
 have hlit:(w.alloc (.cells #[] 148)).ownsRow w.heap.size 148 4 (.slice (some ⟨w.heap.size,0,none⟩) 0 0) 0 []:=aFC (base:=w.heap.size) (e:=148) (size:=4) w #[] 0 (aER _) Aae rfl;cases a with
 |none=>
  have hl0:l=[]:=GR.none_nil ha;subst hl0;clear ha hlit hv;go_in
  exact Tk
 |some x=>
  have HN:=Hq (Gi aW Aaa (GR.At.below ha (au w (.cells #[] 148))));have HV:=Hq hv;clear ha hv;go_in
  go_wp2_with (at_builtin;refine aFL _ rfl _ _ 37 rfl w.heap.size 148 i0 (.agg (gY 0 ByteArray.empty 0 0)) 4 40 underlying37 hi hz0 hz1 hz2 rfl Aae _ 0 [] rfl hlit x l.length cap (GR.flat aL l) rfl ?c0 ?c1 ?c2 ?c3 ?c4 ?c5 ?_)
  case c0=>exact GR.flat_length aL 4 aW l
  case c1=>exact HN
  case c2=>exact HV
  case c3=>unfold maxLen;omega
  case c4=>omega
  case c5=>simp
  intro v' w1 hown' hgrow _;have HO:=Hq (show w1.ownsRow w.heap.size 148 4 v' l.length (GR.flat aL l) by simpa using hown');exact XW
theorem aeQ (a:Option Addr) (cap:Nat) (l:List R3) (w:World) (hl:l.length<=1048600) (hv:∀u∈GR.flat eX l,u.oneCell'=true) (ha:GR.At eX 3 w a l):
 Calls prog 108 #[.slice a l.length cap] w λe w'=>∃v,e= .returned v/\w'.ownsRow w.heap.size 130 3 v l.length (GR.flat eX l)/\aH w w':=by
 obtain⟨i0,hi,hz0,hz1,hz2⟩:=aFt FZ;have q22:∀(w:World) (a:Option Addr) (n c n' c':Nat),(binOp .eql 36 (.slice a n c) (.slice none n' c')).run prog w= .ok (.bool a.isNone) w:=λw a n c n' c'=>aGi w _ _ a n c n' c' underlying36
 have hlit:(w.alloc (.cells #[] 130)).ownsRow w.heap.size 130 3 (.slice (some ⟨w.heap.size,0,none⟩) 0 0) 0 []:=aFC (base:=w.heap.size) (e:=130) (size:=3) w #[] 0 (aER _) Aae rfl;cases a with
 |none=>
  have hl0:l=[]:=GR.none_nil ha;subst hl0;clear ha hlit hv;go_in
  exact Tk
 |some x=>
  have HN:=Hq (Gi bE Aaa (GR.At.below ha (au w (.cells #[] 130))));have HV:=Hq hv;clear ha hv;go_in
  go_wp2_with (at_builtin;refine aFL _ rfl _ _ 36 rfl w.heap.size 130 i0 (.agg #[.int .i64 0,.int .i64 0,.slice none 0 0]) 3 40 underlying36 hi hz0 hz1 hz2 rfl Aae _ 0 [] rfl hlit x l.length cap (GR.flat eX l) rfl ?c0 ?c1 ?c2 ?c3 ?c4 ?c5 ?_)
  case c0=>exact GR.flat_length eX 3 bE l
  case c1=>exact HN
  case c2=>exact HV
  case c3=>unfold maxLen;omega
  case c4=>omega
  case c5=>simp
  intro v' w1 hown' hgrow _;have HO:=Hq (show w1.ownsRow w.heap.size 130 3 v' l.length (GR.flat eX l) by simpa using hown');exact XW
theorem adr (h:iA w a l):∃T:List R3,T.length=l.length/\GR.At eX 3 w a T/\(∀u∈GR.flat eX T,u.oneCell'=true)/\∀i (hi:i < l.length),∃b c,T[i]?=some ⟨l[i].f,l[i].l,.slice b l[i].ids.length c⟩/\bH w b l[i].ids:=by
 have hk:∀k,k<=l.length->∃T:List R3,T.length=k/\(∀i (hi:i < T.length) (hl:i < l.length),∃b c,T[i]=⟨l[i].f,l[i].l,.slice b l[i].ids.length c⟩/\bH w b l[i].ids/\∃g off,a=some ⟨g,off,none⟩/\g < w.heap.size/\w.cell? ⟨g,off+i*3,none⟩=some (.int .i64 l[i].f)/\w.cell? ⟨g,off+i*3+1,none⟩=some (.int .i64 l[i].l)/\w.cell? ⟨g,off+i*3+2,none⟩=some (.slice b l[i].ids.length c)):=by
  intro k;induction k with
  |zero=>intro _;exact⟨[],rfl,λi hi=>Aau⟩
  |succ k ih=>
   intro hk;obtain⟨T,hT,hr⟩:=ih Aaa;obtain⟨g,off,b,c,e,hg,h0,h1,h2,h3⟩:=h k Aaa;refine⟨T++[⟨l[k].f,l[k].l,.slice b l[k].ids.length c⟩],by simp[hT],λi hi hl=>?_⟩;by_cases hik:i < T.length
   .rw [List.getElem_append_left hik];exact hr i hik hl
   .have hi':i=k:=Abs
    subst hi';refine⟨b,c,?_,h3,g,off,e,hg,h0,h1,h2⟩;rw [List.getElem_append_right Aaa];simp[hT]
 obtain⟨T,hT,hr⟩:=hk l.length (aER _);refine⟨T,hT,λi hi=>?_,λu hu=>?_,λi hi=>?_⟩
 .obtain⟨b,c,e,_,g,off,ea,hg,h0,h1,h2⟩:=hr i hi Aaa;refine⟨g,off,ea,hg,λj hj=>?_⟩;rw [e];match j,hj with
  |0,_=>exact h0
  |1,_=>rw [<-aFv];exact h1
  |2,_=>rw [<-aFv];exact h2
 .unfold GR.flat at hu;rw [aGf] at hu;obtain⟨p,hp,hq⟩:=hu;obtain⟨i,hi,rfl⟩:=aF3.1 hp;obtain⟨b,c,e,_⟩:=hr i hi Aaa;rw [e] at hq;simp only[eX,aFd,aFW,or_false] at hq;rcases hq with rfl|rfl|rfl<;>rfl
 .obtain⟨b,c,e,hI,_⟩:=hr i Aaa hi;exact⟨b,c,by rw [aEV Aaa,e],hI⟩
theorem keepsN (hb:aH X Y):aA [nb] X (Y.setCell ⟨nb,i,none⟩ v):=(aA.of_below hb).trans (aA.set v)
theorem akn (hn:w.heap.size<=nb) (hb:aH w Y):Below w.heap.size w (Y.setCell ⟨nb,i,none⟩ v):=hb.setCell (p:=⟨nb,i,none⟩) hn v
theorem Dv {cs:Array Value} (h:Y.heap[nb]?=some (.cells cs 39 (0,0))):(Y.setCell ⟨nb,i,none⟩ v).heap[nb]?=some (.cells (cs.setIfInBounds i v) 39 (0,0)):=aP h i v
theorem cpy {y W':World} {p:Nat} {cs cs':Array Value} (hW:W'=y.setCell ⟨p,i,none⟩ v) (hN:Hid (W.heap[p]?=some (.cells cs 39 (0,0)))) (hB:Hid (aH w W)) (hy:Hid (aH W y)) (hp:w.heap.size<=p) (e:cs.setIfInBounds i v=cs'):
 Hid (W'.heap[p]?=some (.cells cs' 39 (0,0)))/\Hid (aH w W')/\Hid (aA [p] W W')/\Hid (aA [p] y W'):=by
 subst hW e;exact⟨Dv (aj hN hy),akn hp (hB.trans (hy.mono hB.size)),keepsN hy,aA.set _⟩
theorem dM {F:List Nat} (h:Y.ownsRow B t sz v k xs) (hk:aA F Y W) (hd:∀x∈F,x < B):W.ownsRow B t sz v k xs:=by
 refine⟨h.1,?_⟩;rcases h.2 with hn|⟨g,cap,cur,rfl,hb,hgg,rest⟩
 .exact .inl hn
 .exact .inr ⟨g,cap,cur,rfl,hb,hk.obj hgg (λhm=>by have:=hd g hm;omega),rest⟩
theorem abE (u:Value):∀(l:List R3) (i:Nat) (hi:i < l.length),(GR.flat eX l).set (i*3+2) u=GR.flat eX (l.set i ⟨l[i].f,l[i].l,u⟩):=by
 intro l;induction l with
 |nil=>intro i hi;simp at hi
 |cons x r ih=>
  intro i hi;cases i with
  |zero=>rfl
  |succ i=>
   have hi2:i < r.length:=Aat
   have h1:=ih i hi2;show(eX x++GR.flat eX r).set ((i+1)*3+2) u=eX x++GR.flat eX (r.set i ⟨r[i].f,r[i].l,u⟩)
   rw [<-h1,aGg _ _ (by show 3<=_;omega)];congr 2
   show(i+1)*3+2 - 3=_
   omega
structure SC (w W5 wr:World) (B k:Nat) (l:List Sn) (T T2:List R3) (I:Nat->Nat) (a:Option Addr) (cs:Nat):Prop where
 len:T2.length=l.length
 own:wr.ownsRow B 130 3 (.slice a l.length cs) l.length (GR.flat eX T2)
 dn:∀i (hi:i < l.length),i < k->∃b c,T2[i]?=some ⟨l[i].f,l[i].l,.slice b l[i].ids.length c⟩/\GR.W bg 1 wr b (I i) l[i].ids/\∀x∈fp (I i) l[i].ids,W5.heap.size<=x/\x < wr.heap.size
 up:∀i,k<=i->T2[i]?=T[i]?
 nd:∀i j (hi:i < l.length) (hj:j < l.length),i < j->j < k->0 < l[i].ids.length->0 < l[j].ids.length->I i≠I j
 gr:W5.grownBy wr (Value.slice a l.length cs).ownBlock
theorem SC.start (hT:T.length=l.length) (ho:W5.ownsRow B 130 3 (.slice a l.length cs) l.length (GR.flat eX T)):SC w W5 W5 B 0 l T T (λ_=>0) a cs:=
 ⟨hT,ho,λi _ h=>Aaa,λ_ _=>rfl,λi j _ _ _ h=>Aaa,World.grownBy.refl _ _⟩
theorem SC.next {x:World} {gi cc:Nat} {b:Option Addr} (h:SC w W5 wr B k l T T2 I a cs) (hk:k < l.length) (ha:a=some ⟨g,0,none⟩) (hT:∃b c,T[k]?=some ⟨l[k].f,l[k].l,.slice b l[k].ids.length c⟩) (hx:aH wr x) (hg5:g < W5.heap.size) (hi:GR.W bg 1 x b gi l[k].ids) (hlt:∀z∈fp gi l[k].ids,wr.heap.size<=z/\z < x.heap.size):SC w W5 (x.setCell ⟨g,k*3+2,none⟩ (.slice b l[k].ids.length cc)) B (k+1) l T (T2.set k ⟨l[k].f,l[k].l,.slice b l[k].ids.length cc⟩) (λi=>if i=k then gi else I i) a cs:=by
 subst ha;have hk2:k < T2.length:=by rw [h.len];exact hk
 have hTk:∃b c,T2[k]=⟨l[k].f,l[k].l,.slice b l[k].ids.length c⟩:=by
  obtain⟨b',c',e⟩:=hT;refine⟨b',c',?_⟩;have:=h.up k (aER _);rw [aEV hk2,e] at this;exact aFI this
 have hgs:x.heap.size=(x.setCell ⟨g,k*3+2,none⟩ (.slice b l[k].ids.length cc)).heap.size:=Aaq
 have hkp:aA [g] x (x.setCell ⟨g,k*3+2,none⟩ (.slice b l[k].ids.length cc)):=aA.set _;have hws:=h.gr.size;have hxs:=hx.size;refine⟨by rw [aF6];exact h.len,?_,λi hi' hik=>?_,λi hik=>?_,λi j hi' hj hij hjk h1 h2=>?_,?_⟩
 .have ho:=GR.own_below h.own hx;have hst:=(ho.stored (k*3+2) (.slice b l[k].ids.length cc)).1;rw [abE _ T2 k hk2] at hst;obtain⟨b',c',e⟩:=hTk;rw [e] at hst;exact hst
 .by_cases e:i=k
  .subst e;refine⟨b,cc,by rw [aGx hk2],?_,?_⟩
   .rw [aFc rfl];exact hi.keeps hkp (λz hz hm=>by have:=(hlt z hz).1;have:z=g:=Aaz;omega)
   .rw [aFc rfl];exact λz hz=>⟨by have:=(hlt z hz).1;omega,by rw [<-hgs];exact(hlt z hz).2⟩
  .obtain⟨b',c',e1,e2,e3⟩:=h.dn i hi' Aaa;refine⟨b',c',by rw [aGa Aaa];exact e1,?_,?_⟩
   .rw [aE2 e];exact(e2.below hx).keeps hkp (λz hz hm=>by have:=(e3 z hz).1;have:z=g:=Aaz;omega)
   .rw [aE2 e];exact λz hz=>⟨(e3 z hz).1,by rw [<-hgs];have:=(e3 z hz).2;omega⟩
 .rw [aGa Aaa];exact h.up i Aaa
 .by_cases ej:j=k
  .subst ej;rw [aE2 Aaa,aFc rfl];obtain⟨_,_,_,_,e3⟩:=h.dn i hi' Aaa;have q1:=(e3 (I i) (dK h1)).2;have q2:=(hlt gi (dK h2)).1;omega
  .exact ai1
 .refine h.gr.andThen (row':=some g) ⟨hx.os,hx.tape,hx.output,by rw [<-hgs];exact hx.size,λz hz hne=>?_⟩ (λj hj=> .inr (by cases hj;rfl));rw [aFe _ _ _ _ (λe=>hne Aap)];exact hx.block z hz
theorem SC.done (h:SC w W5 wr B l.length l T T2 I a cs):∃g,eB wr a g I l/\(∀x∈fp g l,B<=x/\(Value.slice a l.length cs).ownBlock=some x)/\(∀x∈nI I l,W5.heap.size<=x/\x < wr.heap.size)/\(nI I l).Nodup:=by
 open atJ in exact agN
theorem SC.below (h:SC w W5 wr B k l T T2 I a cs) {C:Nat} (hC:C<=B) (hs:C<=W5.heap.size):Below C W5 wr:=
 ⟨h.gr.os,h.gr.tape,h.gr.output,h.gr.size,λx hx=>h.gr.block x Aaa (λe=>by have:=(h.own.lt x e.symm).1;omega)⟩
theorem zY {l:List α} (h:GR.W enc sz w a g l) (hs:w.heap.size<=w'.heap.size) (hb:∀x∈fp g l,w'.heap[x]?=w.heap[x]?):GR.W enc sz w' a g l:=λi hi=>by
 obtain⟨e,hg,hc⟩:=h i hi;have hbl:=hb g (dK Aaa);exact⟨e,Aaa,λj hj=>⟨(aFw (w:=w) hbl).trans (hc j hj).1,(aGv (w:=w) hbl).trans (hc j hj).2⟩⟩
theorem jF (h:w.ownsRow B t sz v k xs) (hb:∀x,v.ownBlock=some x->w'.heap[x]?=w.heap[x]?):w'.ownsRow B t sz v k xs:=by
 refine⟨h.1,?_⟩;rcases h.2 with hn|⟨g,cap,cur,rfl,hB,hgg,rest⟩
 .exact .inl hn
 .exact .inr ⟨g,cap,cur,rfl,hB,(hb g rfl).trans hgg,rest⟩
theorem lM (h:w.ownsRow B t sz v k xs) (hB:B'<=B):w.ownsRow B' t sz v k xs:=by
 refine⟨h.1,?_⟩;rcases h.2 with hn|⟨g,cap,cur,rfl,hBg,rest⟩
 .exact .inl hn
 .exact .inr ⟨g,cap,cur,rfl,Aaa,rest⟩
theorem OP (h:eB w a g I l) (hs:w.heap.size<=w'.heap.size) (hb:∀x∈fp g l,w'.heap[x]?=w.heap[x]?) (hI:∀x∈nI I l,w'.heap[x]?=w.heap[x]?):eB w' a g I l:=by
 obtain⟨T,hT,hl,hr⟩:=h;refine⟨T,zY hT hs (λx hx=>hb x (by have:=dw hx;rw [this.1];exact dK (by omega))),hl,λi hi=>?_⟩;obtain⟨b,c,ht,hi2⟩:=hr i hi;exact⟨b,c,ht,zY hi2 hs (λx hx=>hI x (jD hi x hx))⟩
def DJ (s0 s1 s2 s4 s5 s6 x:Nat):Nat:=if x < s0 then 0 else if x < s1 then 1 else if x < s2 then 2 else if x < s4 then 3 else if x < s5 then 4 else if x < s6 then 5 else 6
theorem ql (n:Nd) (A:bq) (w:World) (hz:eG n 1048576) (ha:cK w A n):
 Calls prog 58 #[gU n A] w λe w'=>∃A' G' c',e= .returned (gU n A')/\NO w' w.heap.size n A' G' c'/\aH w w':=by
 have HZ:=Hq hz;have HA:=Hq ha;have hlo:=hz.o;have hls:=hz.s;have hlr:=hz.r;clear hz ha;go_in
 go_upto_region 1 with fail;refine wp_at (λW0 hW=>?_);obtain⟨e1,e2,e3⟩:=gH w (.cells (dD n A) 39) (.cells lC 39);rw [<-hW] at e1 e2 e3;have wE:=Hq e1;have OH:=Hq e2;have Om:=Hq e3;have hsz0:=ay e2;clear hW e1 e2 e3;obtain⟨c0,c1,c2,c3,c4,c5,c6,c7,c8⟩:=nine wE;have akN:=ay wE;have aB1:=aC wE 2;go_wp2_with fail;refine(Cc A.k A.ck n.kids W0 (aEU HZ.k Aaa) (GR.At.below HA.k Om)).mono ?_;rintro e y ⟨vk,rfl,hrow,hby⟩;obtain⟨ak,ck,gk,rfl,hWk,hgk,_⟩:=GR.W.of_own (enc:=bg) aX hrow;clear hrow;have VL:=Hq hby;have hN1:=aj wE hby;have f1:=aC hN1 2;have Mi:=ay hN1;obtain⟨d0,d1,d2,d3,d4,d5,d6,d7,d8⟩:=nine hN1;clear c0 c1 c2 c3 c4 c5 c6 c7 c8 hby aB1;go_upto_region 2 with fail;refine wp_at (λW1 hW=>?_);obtain⟨wF,Oo,Dg,VI⟩:=cpy (cs':=dD n ⟨ak,A.p,A.o,A.s,A.r,ck,A.cp,A.co,A.cs,A.cr⟩) hW wE Om VL (aER _) rfl;have OI:=Hq (Dg.obj OH Aac);clear hW hN1 f1 Mi d0 d1 d2 d3 d4 d5 d6 d7 d8 wE OH;have HKW:Hid (GR.W bg 1 W1 ak gk n.kids/\∀x∈fp gk n.kids,W0.heap.size<=x/\x < W1.heap.size):=⟨hWk.keeps VI (λx hx=>by have:=(hgk x hx).1;simp;omega),λx hx=>⟨(hgk x hx).1,aEZ (hgk x hx).2 VI.size⟩⟩;clear hWk hgk;obtain⟨c0,c1,c2,c3,c4,c5,c6,c7,c8⟩:=nine wF;have akO:=ay wF;have aB2:=aC wF 4;go_wp2_with fail;refine(PY A.p A.cp n.pu W1 HZ.p HZ.pk (GR.At.below HA.p Oo)).mono ?_;rintro e y ⟨ap,cp,gp,hgp,rfl,hWp,hby⟩;have VN:=Hq hby;have hN1:=aj wF hby;have f1:=aC hN1 4;have Mi:=ay hN1;obtain⟨d0,d1,d2,d3,d4,d5,d6,d7,d8⟩:=nine hN1;clear c0 c1 c2 c3 c4 c5 c6 c7 c8 hby aB2;go_upto_region 3 with fail;refine wp_at (λW2 hW=>?_);obtain⟨wG,Oq,zP,VJ⟩:=cpy (cs':=dD n ⟨ak,ap,A.o,A.s,A.r,ck,cp,A.co,A.cs,A.cr⟩) hW wF Oo VN (aER _) rfl;have OJ:=Hq (zP.obj OI Aac);clear hW hN1 f1 Mi d0 d1 d2 d3 d4 d5 d6 d7 d8 wF OI
 have Ik:Hid (GR.W fA 4 W2 ap gp n.pu/\∀x∈fp gp n.pu,W1.heap.size<=x/\x < W2.heap.size):=by
  have hgy:=uP (show GR.W fA 4 y ap gp n.pu from hWp);have hs0:=Dg.size;refine⟨GR.W.keeps (show GR.W fA 4 y ap gp n.pu from hWp) VJ (λx hx=>by have:=(dw hx).1;simp;omega),λx hx=>⟨by have:=(dw hx).1;omega,aEZ (hgy x hx) VJ.size⟩⟩
 clear hWp hgp;obtain⟨c0,c1,c2,c3,c4,c5,c6,c7,c8⟩:=nine wG;have akP:=ay wG;have aB3:=aC wG 5;go_wp2_with fail;refine(abt A.o A.co n.out W2 (aEU HZ.o Aaa) (Dj _) (GR.At.below HA.o Oq)).mono ?_;rintro e y ⟨vo,rfl,hrow,hby⟩;obtain⟨ao,co,rfl,_⟩:=GR.own_at (enc:=aM) (sz:=4) aT hrow;have VO:=Hq hby;have hN1:=aj wG hby;have f1:=aC hN1 5;have Mi:=ay hN1;obtain⟨d0,d1,d2,d3,d4,d5,d6,d7,d8⟩:=nine hN1;clear c0 c1 c2 c3 c4 c5 c6 c7 c8 hby aB3;go_upto_region 4 with fail;refine wp_at (λW3 hW=>?_);obtain⟨yE,Ou,zR,aat⟩:=cpy (cs':=dD n ⟨ak,ap,ao,A.s,A.r,ck,cp,co,A.cs,A.cr⟩) hW wG Oq VO (aER _) rfl;have OL:=Hq (zR.obj OJ Aac);clear hW hN1 f1 Mi d0 d1 d2 d3 d4 d5 d6 d7 d8 wG OJ;have HOW:Hid (W3.ownsRow W2.heap.size 145 4 (.slice ao n.out.length co) n.out.length (GR.flat aM n.out)):=dM hrow aat (λx hx=>by have:x=w.heap.size:=Aag;omega);clear hrow;have akQ:=ay yE;obtain⟨c0,c1,c2,c3,c4,c5,c6,c7,c8⟩:=nine yE;go_wp2_with fail;go_loopw [21] (λi wr=>∃k:Nat,k<=n.out.length/\i= .int .i64 k/\aH W3 wr) (λi _=>n.out.length - (intOf i).toNat)
 case atStart=>exact BZ
 case' round=>
  obtain⟨k,hk,rfl,hbw⟩:=hrel
  clear c0 c1 c2 c3 c4 c5 c6 c7 c8
  by_cases hlt:k < n.out.length
  case' pos=>
   have PI:(k:Int) < (n.out.length:Int):=Aaa
   have iQ:=Hq hbw
   have R7:=Hq (aj yE hbw)
   obtain⟨g,rest,e0,hBg,hgb⟩:=xQ (GR.own_below HOW hbw) (show 0 < n.out.length by omega)
   have lD:=Hq hgb
   have q2:wr.cell? ⟨g,k*4+2,none⟩=some (.string n.out[k].k):=wV aT hgb k hlt 2 Aaa
   have hkk:n.out[k].k.size<=281474976710656:=aEU (HZ.ok _ (aE8 hlt)) Aaa
   have jP:=Hq (λw1=>clone n.out[k].k w1 hkk)
   obtain⟨c0,c1,c2,c3,c4,c5,c6,c7,c8⟩:=nine R7
   have hnr:=ay R7
   have hgr:=ay hgb
   clear hbw hgb hkk
   subst e0
   generalize n.out[k].k=kx at *
   go_upto_region 7 with fail
   have y5:=aEQ c5
   have z2:=aEQ q2
   clear c0 c1 c2 c3 c4 c5 c6 c7 c8
   refine bC 12 Aab ?_
   show fV _ _ _ _ _ 13 (Array.replicate 13 false) _ _
   refine tk [0,1,2,3,4,5,6,7,8] ?_
   iterate 9 (refine lW (λK hK=>?_);go_simp;refine hK _ ?_;clear hK K)
   refine jh ?_
   clear y5 z2
   refine dP 9 rfl Aab Aad (λx hx=>?_)
   go_simp
   refine(jP x).mono ?_
   rintro e y ⟨rfl,hby⟩
   refine⟨hby,?_⟩
   have HY:=Hq (Ge.trans hx hby)
   clear hx hby jP
   refine tk [10,11] ?_
   iterate 2 (refine lW (λK hK=>?_);go_simp;refine hK _ ?_;clear hK K)
   refine jh ?_
   refine aS Aab (λx3 hx3=>?_)
   have Lv:=Hq (Ge.trans HY hx3)
   have IZ:=aj lD Lv
   have q3:x3.cell? ⟨g,k*4+2,none⟩=some (.string kx):=(Lv.cell (p:=⟨g,k*4+2,none⟩) hgr).trans q2
   have f3:=aC IZ (k*4+2)
   have zV:=Hq (nL IZ q3)
   clear hx3 IZ q2
   refine aI 12 rfl Aab Aad ?_
   go_simp
   refine wpAny_done Aab ?_
   go_simp
   clear q3 f3
   go_wp2_with fail
   go_roundw
   case rel=>exact ai2
   case measure=>simp[intOf];omega
  have hke:k=n.out.length:=Aaa
  subst hke
  have hnlt:decide ((n.out.length:Int) < (n.out.length:Int))=false:=Aac
  have iQ:=Hq hbw
  clear hbw
  go_upto_region 9 with fail
  refine wp_at (λW4 hWW=>?_)
  subst hWW
  have yF:=Hq (aj yE iQ)
  have VE:=Hq (aj OL iQ)
  have JM:=Hq (Ou.trans (iQ.mono Ou.size))
  have Dh:Hid (aA [w.heap.size] W3 W4):=aA.of_below iQ
  clear iQ hnlt yE OL hlt
 obtain⟨T,hT,hAt,hT1,hTr⟩:=adr HA.s;have HTR:=Hq hTr;have HT:=Hq hT;have HC5:=aeQ A.s A.cs T W4 (by rw [hT];omega) hT1 (GR.At.below hAt JM);rw [hT] at HC5;have HCS:=Hq HC5;clear hTr hAt hT1 HC5 hT;obtain⟨c0,c1,c2,c3,c4,c5,c6,c7,c8⟩:=nine yF;have akR:=ay yF;have aB4:=aC yF 6;go_wp2_with fail;refine HCS.mono ?_;rintro e y ⟨vs,rfl,hrow,hby⟩;have hrow2:=hrow;rw [<-ah HT] at hrow2;obtain⟨as2,cs,hvs,_⟩:=GR.own_at (enc:=eX) (sz:=3) (l:=T) bE hrow2;rw [ah HT] at hvs;subst hvs;clear hrow2 HCS;have amz:=Hq hby;have hN1:=aj yF hby;have f1:=aC hN1 6;have Mi:=ay hN1;obtain⟨d0,d1,d2,d3,d4,d5,d6,d7,d8⟩:=nine hN1;clear c0 c1 c2 c3 c4 c5 c6 c7 c8 hby aB4;go_upto_region 10 with fail;refine wp_at (λW5 hW=>?_);obtain⟨Vy,alT,EO,amu⟩:=cpy (cs':=dD n ⟨ak,ap,ao,as2,A.r,ck,cp,co,cs,A.cr⟩) hW yF JM amz (aER _) rfl;have aao:=Hq (EO.obj VE Aac);clear hW hN1 f1 Mi d0 d1 d2 d3 d4 d5 d6 d7 d8 yF VE;have HSW:Hid (W5.ownsRow W4.heap.size 130 3 (.slice as2 n.seen.length cs) n.seen.length (GR.flat eX T)):=dM hrow amu (λx hx=>by have:x=w.heap.size:=Aag;omega);clear hrow;have aCH:=ay Vy;have aDw:=ay aao;have aCr:=EO.size;have aCb:=JM.size;obtain⟨c0,c1,c2,c3,c4,c5,c6,c7,c8⟩:=nine Vy;go_wp2_with fail;go_loopw [44] (λi wr=>∃(k:Nat) (T2:List R3) (I:Nat->Nat),k<=n.seen.length/\i= .int .i64 k/\SC w W5 wr W4.heap.size k n.seen T T2 I as2 cs) (λi _=>n.seen.length - (intOf i).toNat)
 case atStart=>exact⟨0,T,_,aE7 _,rfl,SC.start HT HSW⟩
 case' round=>
  obtain⟨k,T2,I,hk,rfl,hsc⟩:=hrel
  clear c0 c1 c2 c3 c4 c5 c6 c7 c8
  have HSC:=Hq hsc
  have aZ:=Hq (hsc.below (aER W4.heap.size) aCr)
  have hN4:w.heap.size+1 < W4.heap.size:=by have:=Dg.size;have:=zP.size;have:=zR.size;have:=Dh.size;omega
  have R7:Hid (wr.heap[w.heap.size]?=some (.cells (wC n.id n.par ak n.kids.length ck n.next ap n.pu.length cp ao n.out.length co as2 n.seen.length cs n.old A.r n.reqs.length A.cr) 39 (0,0))):=(aZ.block _ Aaa).trans Vy
  have HRr:Hid (wr.heap[w.heap.size+1]?=some (.cells lC 39 (0,0))):=(aZ.block _ Aaa).trans aao
  have HBr:=Hq (alT.trans (aZ.mono aCb))
  clear hsc
  by_cases hlt:k < n.seen.length
  case' pos=>
   have PI:(k:Int) < (n.seen.length:Int):=Aaa
   obtain⟨b,cc,hTk,hIb⟩:=ah HTR k hlt
   have hk2:k < T2.length:=by rw [(ah HSC).len];exact hlt
   have ho2:=HSC.own
   rw [<-(ah HSC).len] at ho2
   obtain⟨g,rest,e0,hBg,hgb⟩:=xQ ho2 (show 0 < T2.length by omega)
   have ayD:T2[k]=⟨n.seen[k].f,n.seen[k].l,.slice b n.seen[k].ids.length cc⟩:=by
    have:=HSC.up k (aER _);rw [aEV hk2,hTk] at this;exact aFI this
   have q2:wr.cell? ⟨g,k*3+2,none⟩=some (.slice b n.seen[k].ids.length cc):=by
    have:=wV bE hgb k hk2 2 Aaa;rw [ayD] at this;exact this
   have hg5:g < W5.heap.size:=(HSW.lt g (by rw [e0];rfl)).2
   have jP:=Hq (λw1 (h1:aH wr w1)=>Cc b cc n.seen[k].ids w1 (aEU (HZ.sk _ (aE8 hlt)) Aaa) (GR.At.below hIb (HBr.trans (h1.mono HBr.size))))
   have lD:=Hq hgb
   have iJ:=Hq (λx b2 c2 g2 hx hi hl=>SC.next (x:=x) (b:=b2) (cc:=c2) (gi:=g2) HSC hlt e0 ⟨b,cc,hTk⟩ hx hg5 hi hl)
   obtain⟨c0,c1,c2,c3,c4,c5,c6,c7,c8⟩:=nine R7
   have hnr:=ay R7
   have hgr:=ay hgb
   clear hTk hIb ho2 hgb ayD
   subst e0
   generalize n.seen[k].ids=ids at *
   go_upto_region 13 with fail
   have y6:=aEQ c6
   have z2:=aEQ q2
   clear c0 c1 c2 c3 c4 c5 c6 c7 c8
   refine bC 12 Aab ?_
   show fV _ _ _ _ _ 13 (Array.replicate 13 false) _ _
   refine tk [0,1,2,3,4,5,6,7,8] ?_
   iterate 9 (refine lW (λK hK=>?_);go_simp;refine hK _ ?_;clear hK K)
   refine jh ?_
   clear y6 z2
   refine dP 9 rfl Aab Aad (λx hx=>?_)
   go_simp
   refine(jP x hx).mono ?_
   rintro e y ⟨v2,rfl,hrow,hby⟩
   refine⟨hby,?_⟩
   obtain⟨b2,c2,g2,rfl,hW2,hg2,_⟩:=GR.W.of_own (enc:=bg) aX hrow
   have HY:=Hq (Ge.trans hx hby)
   have HWI:=Hq (And.intro hW2 (λz (hz:z∈fp g2 ids)=>And.intro (aEU hx.size (hg2 z hz).1) (hg2 z hz).2))
   clear hx hby jP hrow hW2 hg2
   refine tk [10,11] ?_
   iterate 2 (refine lW (λK hK=>?_);go_simp;refine hK _ ?_;clear hK K)
   refine jh ?_
   refine aS Aab (λx3 hx3=>?_)
   have Lv:=Hq (Ge.trans HY hx3)
   have HRL:=Hq (iJ x3 b2 c2 g2 Lv (HWI.1.below hx3) (λz hz=>⟨(HWI.2 z hz).1,aEZ (HWI.2 z hz).2 hx3.size⟩))
   have IZ:=aj lD Lv
   have q3:x3.cell? ⟨g,k*3+2,none⟩=some (.slice b ids.length cc):=(Lv.cell (p:=⟨g,k*3+2,none⟩) hgr).trans q2
   have f3:=aC IZ (k*3+2)
   clear hx3 IZ q2 iJ
   refine aI 12 rfl Aab Aad ?_
   go_simp
   refine wpAny_done Aab ?_
   go_simp
   clear q3 f3
   go_wp2_with fail
   go_roundw
   case rel=>exact⟨k+1,_,_,Aaa,Aaf,HRL⟩
   case measure=>simp[intOf];omega
  have hke:k=n.seen.length:=Aaa
  subst hke
  have hnlt:decide ((n.seen.length:Int) < (n.seen.length:Int))=false:=Aac
  go_upto_region 15 with fail
  refine wp_at (λW6 hWW=>?_)
  subst hWW
  have JN:=Hq R7
  have agh:=Hq HRr
  have af0:=Hq HBr
  have af7:=Hq aZ
  obtain⟨gs,hsn⟩:=HSC.done
  obtain⟨I6,hI6⟩:∃J,J=I:=⟨I,rfl⟩
  rw [<-hI6] at hsn
  have HSN:=Hq hsn
  clear hsn hI6 HSC R7 HRr HBr aZ hnlt Vy aao hlt
 obtain⟨c0,c1,c2,c3,c4,c5,c6,c7,c8⟩:=nine JN;have aCI:=ay JN;have aB5:=aC JN 8;go_wp2_with fail;refine(aeR A.r A.cr n.reqs W6 (aEU HZ.r Aaa) (nN _) (GR.At.below HA.r af0)).mono ?_;rintro e y ⟨vr,rfl,hrow,hby⟩;obtain⟨ar,cr,rfl,_⟩:=GR.own_at (enc:=aL) (sz:=4) aW hrow;have amA:=Hq hby;have hN1:=aj JN hby;have f1:=aC hN1 8;have Mi:=ay hN1;obtain⟨d0,d1,d2,d3,d4,d5,d6,d7,d8⟩:=nine hN1;clear c0 c1 c2 c3 c4 c5 c6 c7 c8 hby aB5;go_upto_region 16 with fail;refine wp_at (λW7 hW=>?_);obtain⟨OA,af2,aag,amv⟩:=cpy (cs':=dD n ⟨ak,ap,ao,as2,ar,ck,cp,co,cs,cr⟩) hW JN af0 amA (aER _) rfl;have agi:=Hq (aag.obj agh Aac);clear hW hN1 f1 Mi d0 d1 d2 d3 d4 d5 d6 d7 d8 JN agh;have HQW:Hid (W7.ownsRow W6.heap.size 148 4 (.slice ar n.reqs.length cr) n.reqs.length (GR.flat aL n.reqs)):=dM hrow amv (λx hx=>by have:x=w.heap.size:=Aag;omega);clear hrow;have aCJ:=ay OA;obtain⟨c0,c1,c2,c3,c4,c5,c6,c7,c8⟩:=nine OA;go_wp2_with fail;go_loopw [67] (λi wr=>∃k:Nat,k<=n.reqs.length/\i= .int .i64 k/\aH W7 wr) (λi _=>n.reqs.length - (intOf i).toNat)
 case atStart=>exact BZ
 case' round=>
  obtain⟨k,hk,rfl,hbw⟩:=hrel
  clear c0 c1 c2 c3 c4 c5 c6 c7 c8
  by_cases hlt:k < n.reqs.length
  case' pos=>
   have PI:(k:Int) < (n.reqs.length:Int):=Aaa
   have iQ:=Hq hbw
   have R7:=Hq (aj OA hbw)
   obtain⟨g,rest,e0,hBg,hgb⟩:=xQ (GR.own_below HQW hbw) (show 0 < n.reqs.length by omega)
   have lD:=Hq hgb
   have q2:wr.cell? ⟨g,k*4+1,none⟩=some (.string n.reqs[k].k):=wV aW hgb k hlt 1 Aaa
   have hkk:n.reqs[k].k.size<=281474976710656:=aEU (HZ.rk _ (aE8 hlt)) Aaa
   have jP:=Hq (λw1=>clone n.reqs[k].k w1 hkk)
   obtain⟨c0,c1,c2,c3,c4,c5,c6,c7,c8⟩:=nine R7
   have hnr:=ay R7
   have hgr:=ay hgb
   clear hbw hgb hkk
   subst e0
   generalize n.reqs[k].k=kx at *
   go_upto_region 19 with fail
   have y5:=aEQ c8
   have z2:=aEQ q2
   clear c0 c1 c2 c3 c4 c5 c6 c7 c8
   refine bC 12 Aab ?_
   show fV _ _ _ _ _ 13 (Array.replicate 13 false) _ _
   refine tk [0,1,2,3,4,5,6,7,8] ?_
   iterate 9 (refine lW (λK hK=>?_);go_simp;refine hK _ ?_;clear hK K)
   refine jh ?_
   clear y5 z2
   refine dP 9 rfl Aab Aad (λx hx=>?_)
   go_simp
   refine(jP x).mono ?_
   rintro e y ⟨rfl,hby⟩
   refine⟨hby,?_⟩
   have HY:=Hq (Ge.trans hx hby)
   clear hx hby jP
   refine tk [10,11] ?_
   iterate 2 (refine lW (λK hK=>?_);go_simp;refine hK _ ?_;clear hK K)
   refine jh ?_
   refine aS Aab (λx3 hx3=>?_)
   have Lv:=Hq (Ge.trans HY hx3)
   have IZ:=aj lD Lv
   have q3:x3.cell? ⟨g,k*4+1,none⟩=some (.string kx):=(Lv.cell (p:=⟨g,k*4+1,none⟩) hgr).trans q2
   have f3:=aC IZ (k*4+1)
   have zV:=Hq (nL IZ q3)
   clear hx3 IZ q2
   refine aI 12 rfl Aab Aad ?_
   go_simp
   refine wpAny_done Aab ?_
   go_simp
   clear q3 f3
   go_wp2_with fail
   go_roundw
   case rel=>exact ai2
   case measure=>simp[intOf];omega
  have hke:k=n.reqs.length:=Aaa
  subst hke
  have hnlt:decide ((n.reqs.length:Int) < (n.reqs.length:Int))=false:=Aac
  have iQ:=Hq hbw
  clear hbw
  go_upto_region 21 with fail
  refine wp_at (λW8 hWW=>?_)
  subst hWW
  have agc:=Hq (aj OA iQ)
  have VF:=Hq (aj agi iQ)
  have af3:=Hq (af2.trans (iQ.mono af2.size))
  have af8:Hid (aA [w.heap.size] W7 W8):=aA.of_below iQ
  clear iQ hnlt OA agi hlt
 obtain⟨c0,c1,c2,c3,c4,c5,c6,c7,c8⟩:=nine agc;obtain⟨d0,d1,d2,d3,d4,d5,d6,d7,d8⟩:=nine VF;obtain⟨f0,f1,f2,f3,f4,f5,f6,f7,f8⟩:=pJ VF;have aCG:=ay agc;have aCQ:=ay VF;go_wp2_with fail;refine qg results58 rfl rfl VF (λW' e4 fC hso hsz=>?_);have HBE:Hid (aH w W'):=af3.trans (fC.below (λx hx=>Aak) af3.size);clear c0 c1 c2 c3 c4 c5 c6 c7 c8 d0 d1 d2 d3 d4 d5 d6 d7 d8 f0 f1 f2 f3 f4 f5 f6 f7 f8;have k1:=zP.size;have k2:=zR.size;have k3:=Dh.size;have k4:=EO.size;have k5:=af7.size;have k6:=aag.size;have k7:=af8.size;have k0:=Dg.size;have b8:∀x,w.heap.size+1 < x->x < W7.heap.size->W'.heap[x]?=W7.heap[x]?:=λx h1 h2=>(hso x Aaa).trans (af8.block x h2 Aah)
 have b6:∀x,w.heap.size+1 < x->x < W6.heap.size->W'.heap[x]?=W6.heap[x]?:=λx h1 h2=>(b8 x h1 Aaa).trans (aag.block x h2 Aah)
 have b4:∀x,w.heap.size+1 < x->x < W4.heap.size->W'.heap[x]?=W4.heap[x]?:=λx h1 h2=>((b6 x h1 Aaa).trans (af7.block x h2)).trans (EO.block x h2 Aah)
 have b3:∀x,w.heap.size+1 < x->x < W3.heap.size->W'.heap[x]?=W3.heap[x]?:=λx h1 h2=>(b4 x h1 Aaa).trans (Dh.block x h2 Aah)
 have b2:∀x,w.heap.size+1 < x->x < W2.heap.size->W'.heap[x]?=W2.heap[x]?:=λx h1 h2=>(b3 x h1 Aaa).trans (zR.block x h2 Aah)
 have b1:∀x,w.heap.size+1 < x->x < W1.heap.size->W'.heap[x]?=W1.heap[x]?:=λx h1 h2=>(b2 x h1 Aaa).trans (zP.block x h2 Aah)
 have oS:=HSW.lt;have oO:=HOW.lt;have oQ:=HQW.lt;obtain⟨sw,sg,si,snd⟩:=ah HSN
 have nA:Hid (NO W' w.heap.size n ⟨ak,ap,ao,as2,ar,ck,cp,co,cs,cr⟩ ⟨gk,gp,0,gs,0,I6⟩ (DJ W0.heap.size W1.heap.size W2.heap.size W4.heap.size W5.heap.size W6.heap.size)):=by
  refine⟨zY HKW.1 Aaa (λx hx=>b1 x (by have:=HKW.2 x hx;omega) (HKW.2 x hx).2),zY Ik.1 Aaa (λx hx=>b2 x (by have:=Ik.2 x hx;omega) (Ik.2 x hx).2),lM (jF HOW (λx hx=>b3 x (by have:=oO x hx;omega) (oO x hx).2)) Aaa,OP sw Aaa (λx hx=>b6 x (by have:=(sg x hx).1;omega) (by have:=oS x (sg x hx).2;omega)) (λx hx=>b6 x (by have:=si x hx;omega) (si x hx).2),lM (jF HQW (λx hx=>b8 x (by have:=oQ x hx;omega) (oQ x hx).2)) Aaa,λx hx=>?_,λx hx=>?_,λx hx=>?_,λx hx=>?_,λx hx=>?_,λx hx=>?_,λx hx=>?_,snd⟩
  .unfold DJ;rw [aFc Aaa]
  .have:=HKW.2 x hx;unfold DJ;rw [aE2 Aaa,aFc Aaa]
  .have:=Ik.2 x hx;unfold DJ;rw [aE2 Aaa,aE2 Aaa,aFc Aaa]
  .have:=oO x hx;unfold DJ;rw [aE2 Aaa,aE2 Aaa,aE2 Aaa,aFc Aaa]
  .have:=oS x (sg x hx).2;unfold DJ;rw [aE2 Aaa,aE2 Aaa,aE2 Aaa,aE2 Aaa,aFc Aaa]
  .have:=si x hx;unfold DJ;rw [aE2 Aaa,aE2 Aaa,aE2 Aaa,aE2 Aaa,aE2 Aaa,aFc Aaa]
  .have:=oQ x hx;unfold DJ;rw [aE2 Aaa,aE2 Aaa,aE2 Aaa,aE2 Aaa,aE2 Aaa,aE2 Aaa]
 clear e4 fC hso b8 b6 b4 b3 b2 b1 oS oO oQ sw sg si snd;exact⟨⟨ak,ap,ao,as2,ar,ck,cp,co,cs,cr⟩,rfl,⟨_,_,nA⟩,HBE⟩
theorem NO.base (h:NO w B n A G c) (hB:B'<=B):NO w B' n A G c:=
 ⟨h.k,h.p,lM h.o hB,h.s,lM h.r hB,λx hx=>h.lo x Aaa,h.ck,h.cp,h.co,h.c4,h.ci,h.cr,h.ni⟩
theorem gG (w:World) (a b d:Obj):(((w.alloc a).alloc b).alloc d).heap[w.heap.size]?=some a/\(((w.alloc a).alloc b).alloc d).heap[w.heap.size+1]?=some b/\(((w.alloc a).alloc b).alloc d).heap[w.heap.size+2]?=some d/\Below w.heap.size w (((w.alloc a).alloc b).alloc d):=Ag w a b d
theorem Px (z:Int):∀(l:List Rq) (i:Nat) (hi:i < l.length),(GR.flat aL l).set (i*4+3) (.int .i64 z)=GR.flat aL (l.set i ⟨l[i].no,l[i].k,l[i].n,z⟩):=by
 intro l;induction l with
 |nil=>intro i hi;simp at hi
 |cons x r ih=>
  intro i hi;cases i with
  |zero=>rfl
  |succ i=>
   have hi2:i < r.length:=Aat
   have h1:=ih i hi2;show(aL x++GR.flat aL r).set ((i+1)*4+3) (.int .i64 z)=aL x++GR.flat aL (r.set i ⟨r[i].no,r[i].k,r[i].n,z⟩)
   rw [<-h1,aGg _ _ (by show 4<=_;omega)];congr 2
   show(i+1)*4+3 - 4=_
   omega
theorem yU (s:jI):∀u∈aM s,u.oneCell'=true:=by
 intro u hu;simp only[aM,aFd,aFW,or_false] at hu;rcases hu with rfl|rfl|rfl|rfl<;>rfl
theorem J7 (k:ByteArray) (m f s:Int) (w:World):(Instr.field 155 (.agg (iX k m f s)) 2).run prog w= .ok (.int .i64 f) w:=Aab
theorem MF:(prog.info? 145).map (λi=>(i.zero,i.size,i.bytes))=some (some (.agg (gN 0 0 ByteArray.empty 0)),4,40):=Aab
theorem JZ {l:List Pu} {key:ByteArray} {dm df ds n:Int} (h:(dB l key dm df ds n).2=false):(dB l key dm df ds n).1=l:=by
 exact ai4
theorem Hw (hi:i < n.seen.length) (e:iU n.seen m.F=i) (hs:n.seen[i]=s0) (h:tF s0 m.L m.I=false) (hg:mH n s0 m=true):takeN n m=(dX (setPu n (dB n.pu m.k 0 1 0 m.N).1) (n.seen.set i ⟨m.F,gu s0 m.L,lK (cu s0 m.L) m.I⟩),true):=by
 subst e hs;unfold takeN;rw [EG hi,aE2 (by rw [h];simp),aFc hg]
theorem K9 (hi:i < n.seen.length) (e:iU n.seen m.F=i) (hs:n.seen[i]=s0) (h:tF s0 m.L m.I=true):takeN n m=(dX n (n.seen.set i ⟨m.F,gu s0 m.L,cu s0 m.L⟩),true):=by
 subst e hs;unfold takeN;rw [EG hi,aFc h]
theorem Rx (hi:i < n.seen.length) (e:iU n.seen m.F=i) (hs:n.seen[i]=s0) (h:tF s0 m.L m.I=false) (hg:mH n s0 m=false):takeN n m=(dX n (n.seen.set i ⟨m.F,gu s0 m.L,cu s0 m.L⟩),false):=by
 grind [takeN,EG]
theorem Fp (h:Below B w X) (hg:B<=g):
 Below B w (((((((((X.setCell ⟨g,0,none⟩ b0).setCell ⟨g,1,none⟩ b1).setCell ⟨g,2,none⟩ b2).setCell ⟨g,3,none⟩ b3).setCell ⟨g,4,none⟩ b4).setCell ⟨g,5,none⟩ b5).setCell ⟨g,6,none⟩ b6).setCell ⟨g,7,none⟩ b7).setCell ⟨g,8,none⟩ b8):=
 ((((((((h.setCell (p:=⟨g,0,none⟩) hg b0).setCell (p:=⟨g,1,none⟩) hg b1).setCell (p:=⟨g,2,none⟩) hg b2).setCell (p:=⟨g,3,none⟩) hg b3).setCell (p:=⟨g,4,none⟩) hg b4).setCell (p:=⟨g,5,none⟩) hg b5).setCell (p:=⟨g,6,none⟩) hg b6).setCell (p:=⟨g,7,none⟩) hg b7).setCell (p:=⟨g,8,none⟩) hg b8
theorem Fg {a0 a1 a2 a3 a4 a5 a6 a7 a8:Value} (h:X.heap[g]?=some (.cells #[a0,a1,a2,a3,a4,a5,a6,a7,a8] t (0,0))):
 (((((((((X.setCell ⟨g,0,none⟩ b0).setCell ⟨g,1,none⟩ b1).setCell ⟨g,2,none⟩ b2).setCell ⟨g,3,none⟩ b3).setCell ⟨g,4,none⟩ b4).setCell ⟨g,5,none⟩ b5).setCell ⟨g,6,none⟩ b6).setCell ⟨g,7,none⟩ b7).setCell ⟨g,8,none⟩ b8).heap[g]?=some (.cells #[b0,b1,b2,b3,b4,b5,b6,b7,b8] t (0,0)):=by
 exact ahZ
theorem ze:
 aA [g] X (((((((((X.setCell ⟨g,0,none⟩ b0).setCell ⟨g,1,none⟩ b1).setCell ⟨g,2,none⟩ b2).setCell ⟨g,3,none⟩ b3).setCell ⟨g,4,none⟩ b4).setCell ⟨g,5,none⟩ b5).setCell ⟨g,6,none⟩ b6).setCell ⟨g,7,none⟩ b7).setCell ⟨g,8,none⟩ b8):=
 (((((((((aA.set b0).trans (aA.set b1)).trans (aA.set b2)).trans (aA.set b3)).trans (aA.set b4)).trans (aA.set b5)).trans (aA.set b6)).trans (aA.set b7)).trans (aA.set b8))
theorem NO.keepsN (h:NO w B n A G c) (hg:g < B) (hk:aA [g] w X):NO X B n A G c:=by
 have hc:KC c 0 w X:=KC.keeps hk (λx hx=>by rw [aE6.1 hx];exact h.lo g hg);exact⟨hc.w h.k h.ck Aaa,hc.w h.p h.cp Aaa,hc.own h.o h.co Aaa,hc.seen h.s h.c4 h.ci Aaa Aaa,hc.own h.r h.cr Aaa,h.lo,h.ck,h.cp,h.co,h.c4,h.ci,h.cr,h.ni⟩
end Go.Proofs.YtbolgdleijjgfaaGreatDoor
