/- Parts. -/
import Derived.Test.YtacgbldlonoaaaaGreatDoorRw40
import Derived.Test.YtacgbldlonoaaaaGreatDoorRw38
namespace Go.Proofs.YtacgbldlonoaaaaGreatDoor
open Go.Proofs.Tryz
open Go.RowKit
open Mth
variable {g c r x cp i k:Nat} {W w w2 W':World} {n n':Nd} {A:bC} {v:Value} {a:Option Addr} {col:Nat->Nat}
def Ow (W:World) (r g:Nat) (n:Nd) (A:bC):Prop:=∃gk gs I col,Rx W A n gk gs I col/\(∀x,x<=r->col x=0)/\col g=0
structure uf (w:World) (c g:Nat) (n:Nd) (A:bC) (W:World):Prop where
 cur:qA W c
 keep:Keeps c w W
 clt:c < w.heap.size
 glt:w.heap.size < g
 res:W.heap[w.heap.size]?=some (.cells fU 30 (0,0))
 own:W.heap[g]?=some (.cells (dD n A) 30 (0,0))
 rm:Ow W w.heap.size g n A
 sz:eY n 1048576
theorem uf.at (h:uf w c g n A W):bQ W A n:=by
 obtain⟨_,_,_,_,h1,_⟩:=h.rm;exact h1.at
theorem uf.draw (h:uf w c g n A W) (hc:qA W' c) (hk:Keeps c W W'):uf w c g n A W':=by
 have h1:=aA h.res;have h2:=aA h.own;have h3:=h.clt;have h4:=h.glt;refine⟨hc,h.keep.trans hk,h.clt,h.glt,by rw [hk.block _ h1 Aaa];exact h.res,by rw [hk.block _ h2 Aaa];exact h.own,?_,h.sz⟩;obtain⟨gk,gs,I,col,hr,h0,hg⟩:=h.rm;exact⟨gk,gs,I,col,hr.kc (k:=0) ⟨hk.os,hk.tape,hk.output,hk.size,λx hx hn=>hk.block x hx (λe=>hn (h0 x Aaa))⟩ (.inl rfl),h0,hg⟩
theorem uf.new (h:uf w c g n A W) (x:Obj):uf w c g n A (W.alloc x):=h.draw (jg h.cur x) (mD x)
theorem uf.far {A':bC} (h:uf w c g n A W) (hb:Below (w.heap.size+1) W W') (e:W'.heap[g]?=some (.cells (dD n' A') 30 (0,0))) (hr:Ow W' w.heap.size g n' A') (hz:eY n' 1048576):uf w c g n' A' W':=by
 have h3:=h.clt;have hk:=h.keep;exact⟨h.cur.below hb Aaa,⟨hb.os.trans hk.os,hb.tape.trans hk.tape,hb.output.trans hk.output,Nat.le_trans hk.size hb.size,λk k1 k2=>(hb.block k Aaa).trans (hk.block k k1 k2)⟩,h.clt,h.glt,(hb.block _ Aaa).trans h.res,e,hr,hz⟩
theorem Ow.set (h:Ow W r g n A):Ow (W.setCell ⟨g,i,none⟩ v) r g n A:=by
 obtain⟨gk,gs,I,col,hr,h0,hg⟩:=h;exact⟨gk,gs,I,col,hr.kc (k:=0) (KC.set hg) (.inl rfl),h0,hg⟩
theorem Ow.node (h:Ow W r g n A) (e1:n'.kids=n.kids) (e2:n'.pu=n.pu) (e3:n'.out=n.out) (e4:n'.seen=n.seen) (e5:n'.reqs=n.reqs):Ow W r g n' A:=by
 obtain⟨gk,gs,I,col,hr,h0,hg⟩:=h;exact⟨gk,gs,I,col,hr.node e1 e2 e3 e4 e5,h0,hg⟩
theorem uf.put (h:uf w c g n A W) (i:Nat) (v:Value) (e:(dD n A).setIfInBounds i v=dD n' A) (e1:n'.kids=n.kids) (e2:n'.pu=n.pu) (e3:n'.out=n.out) (e4:n'.seen=n.seen) (e5:n'.reqs=n.reqs):uf w c g n' A (W.setCell ⟨g,i,none⟩ v):=
 h.far ((Below.refl _ W).setCell (p:=⟨g,i,none⟩) h.glt v) (by rw [<-e];exact aT h.own i v) (h.rm.set.node e1 e2 e3 e4 e5)
  ⟨by rw [e1];exact h.sz.k,by rw [e2];exact h.sz.p,by rw [e3];exact h.sz.o,by rw [e4];exact h.sz.s,by rw [e5];exact h.sz.r,by rw [e2];exact h.sz.pk,by rw [e3];exact h.sz.ok,by rw [e4];exact h.sz.sk,by rw [e5];exact h.sz.rk⟩
def OY (v:Value) (k:Nat) (col:Nat->Nat):Nat->Nat:=λx=>if v.ownBlock=some x then k else col x
theorem Ld (h:v.ownBlock=some x):OY v k col x=k:=if_pos h
theorem E8 (h:v.ownBlock≠some x):OY v k col x=col x:=if_neg h
theorem Ow.out {xs:List lJ} (h:Ow W r g n A) (hgl:g < W.heap.size) (hrl:r < W.heap.size) (hv:v= .slice a xs.length cp) (ho:w2.ownsRow 0 95 4 v xs.length (GR.flat aW xs)) (hg:W.grownBy w2 (Value.slice A.o n.out.length A.co).ownBlock) (hw:∀x,v.ownBlock=some x->(Value.slice A.o n.out.length A.co).ownBlock=some x\/W.heap.size<=x):
 Ow w2 r g {n with out:=xs} {A with o:=a,co:=cp}:=by
 obtain⟨gk,gs,I,col,hr,h0,hcg⟩:=h;have hk:KC col 3 W w2:=KC.grown hg hr.co
 have ne:∀x,x < W.heap.size->col x≠3->v.ownBlock≠some x:=λx hx hc e=>by
  rcases hw x e with h|h
  .exact hc (hr.co x h)
  .omega
 have sm:∀x,x < W.heap.size->col x≠3->OY v 3 col x=col x:=λx hx hc=>E8 (ne x hx hc)
 have lk:=Si hr.k;obtain⟨l4,l5⟩:=jK hr.s.w;refine⟨gk,gs,I,OY v 3 col,⟨hk.w hr.k hr.ck Aaa,ES hk hr.p hr.cp Aaa,by subst hv;exact ho,hk.seenQ hr.s hr.c4 hr.ci Aaa Aaa,hk.own hr.r hr.cr Aaa,λx hx=>?_,λx hx hp=>?_,λx hx=>by subst hv;exact Ld hx,λx hx=>?_,λx hx=>?_,λx hx=>?_,hr.ni⟩,λx hx=>?_,?_⟩
 .have:=hr.ck x hx;rw [sm x (lk x hx) Aaa];exact this
 .exact axL
 .have:=hr.c4 x hx;rw [sm x (l4 x hx) Aaa];exact this
 .have:=hr.ci x hx;rw [sm x (l5 x hx) Aaa];exact this
 .have:=hr.cr x hx;rw [sm x (hr.r.lt x hx).2 Aaa];exact this
 .have:=h0 x hx;rw [sm x Aaa Aaa];exact this
 .rw [sm g hgl Aaa];exact hcg
theorem Ow.reqs {xs:List Rq} (h:Ow W r g n A) (hgl:g < W.heap.size) (hrl:r < W.heap.size) (hv:v= .slice a xs.length cp) (ho:w2.ownsRow 0 97 4 v xs.length (GR.flat aN xs)) (hg:W.grownBy w2 (Value.slice A.r n.reqs.length A.cr).ownBlock) (hw:∀x,v.ownBlock=some x->(Value.slice A.r n.reqs.length A.cr).ownBlock=some x\/W.heap.size<=x):
 Ow w2 r g {n with reqs:=xs} {A with r:=a,cr:=cp}:=by
 obtain⟨gk,gs,I,col,hr,h0,hcg⟩:=h;have hk:KC col 6 W w2:=KC.grown hg hr.cr
 have ne:∀x,x < W.heap.size->col x≠6->v.ownBlock≠some x:=λx hx hc e=>by
  rcases hw x e with h|h
  .exact hc (hr.cr x h)
  .omega
 have sm:∀x,x < W.heap.size->col x≠6->OY v 6 col x=col x:=λx hx hc=>E8 (ne x hx hc)
 have lk:=Si hr.k;obtain⟨l4,l5⟩:=jK hr.s.w;refine⟨gk,gs,I,OY v 6 col,⟨hk.w hr.k hr.ck Aaa,ES hk hr.p hr.cp Aaa,hk.own hr.o hr.co Aaa,hk.seenQ hr.s hr.c4 hr.ci Aaa Aaa,by subst hv;exact ho,λx hx=>?_,λx hx hp=>?_,λx hx=>?_,λx hx=>?_,λx hx=>?_,λx hx=>by subst hv;exact Ld hx,hr.ni⟩,λx hx=>?_,?_⟩
 .have:=hr.ck x hx;rw [sm x (lk x hx) Aaa];exact this
 .exact axL
 .have:=hr.co x hx;rw [sm x (hr.o.lt x hx).2 Aaa];exact this
 .have:=hr.c4 x hx;rw [sm x (l4 x hx) Aaa];exact this
 .have:=hr.ci x hx;rw [sm x (l5 x hx) Aaa];exact this
 .have:=h0 x hx;rw [sm x Aaa Aaa];exact this
 .rw [sm g hgl Aaa];exact hcg
theorem Ow.pu {B:Nat} {RL:List Pu} (h:Ow W r g n A) (hgl:g < W.heap.size) (hrl:r < W.heap.size) (hb:aY W w2) (hB:W.heap.size<=B) (ho:w2.ownsRow B 143 4 (.slice a RL.length cp) RL.length (GR.flat fH RL)):Ow w2 r g {n with pu:=RL} {A with p:=a,cp:=cp}:=by
 obtain⟨gk,gs,I,col,hr,h0,hcg⟩:=h;have hk:KC col 9 W w2:=KC.of_below hb
 have ne:∀x,x < W.heap.size->(Value.slice a RL.length cp).ownBlock≠some x:=λx hx e=>by
  have:=(ho.lt x e).1
  omega
 have sm:∀x,x < W.heap.size->OY (.slice a RL.length cp) 2 col x=col x:=λx hx=>E8 (ne x hx)
 have lk:=Si hr.k;obtain⟨l4,l5⟩:=jK hr.s.w;obtain⟨a',c',hv,hat⟩:=GR.own_at aX ho;cases hv
 refine⟨gk,gs,I,OY (.slice a RL.length cp) 2 col,⟨hk.w hr.k hr.ck Aaa,hat,hk.own hr.o hr.co Aaa,hk.seenQ hr.s hr.c4 hr.ci Aaa Aaa,hk.own hr.r hr.cr Aaa,λx hx=>?_,λx hx hp=>Ld (nD ho hx),λx hx=>?_,λx hx=>?_,λx hx=>?_,λx hx=>?_,hr.ni⟩,λx hx=>?_,?_⟩
 .have:=hr.ck x hx;rw [sm x (lk x hx)];exact this
 .have:=hr.co x hx;rw [sm x (hr.o.lt x hx).2];exact this
 .have:=hr.c4 x hx;rw [sm x (l4 x hx)];exact this
 .have:=hr.ci x hx;rw [sm x (l5 x hx)];exact this
 .have:=hr.cr x hx;rw [sm x (hr.r.lt x hx).2];exact this
 .have:=h0 x hx;rw [sm x Aaa];exact this
 .rw [sm g hgl];exact hcg
theorem IC {b:Option Addr} {ids:List Int} {z:Int} {nb:Nat} (ty:TypeId) (h:WO w b c x ids) (hl:w.heap[nb]?=some (.cells #[.int .i64 z] 3 (0,0))) (hb:ids.length<=1000):
 ∃g2 cq w',(Builtin.append_ #[24,24] ty #[.slice b ids.length c,.slice (some ⟨nb,0,none⟩) 1 1]).run prog w= .ok (.slice (some ⟨g2,0,none⟩) (ids.length+1) cq) w'/\w'.ownsRow 0 3 1 (.slice (some ⟨g2,0,none⟩) (ids.length+1) cq) (ids.length+1) (GR.flat aS (ids++[z]))/\
  w.grownBy w' (if ids=[] then none else some x)/\(g2=x/\ids≠[]\/w.heap.size<=g2):=by
 obtain⟨i0,hi,hz0,hz1,hz2⟩:=info_parts uG;have hz1':i0.size=1:=hz1;have ajt:(ids.length+1)*8<=140737488355328:=Aaa
 have hmx:ids.length+1<=maxLen:=Aah
 by_cases hn:ids=[]
 .subst hn;rw [if_pos rfl];have hc:=h.e rfl;subst hc;cases b with
  |none=>
   obtain⟨v',w',hr,ho,hg,hw⟩:=dR w w.heap.size 24 ty 3 i0 (.int .i64 0) 1 8 underlying24 hi hz0 hz1' hz2 rfl Aae (.slice none 0 0) 0 [] (World.ownsRow_nil w _ _ _) ⟨nb,0,none⟩ 1 1 (aS z) rfl (World.news_of_block hl) Acu hmx ajt (Nat.le_refl _)
   rcases ho.2 with⟨_,h0⟩|⟨g2,cq,cur,hv,hbg,rest⟩
   .simp at h0
   .subst hv;refine⟨g2,cq,w',hr,?_,hg,.inr hbg⟩;have:=GR.own_lower ho (Nat.zero_le _);simpa [GR.flat_one,GR.flat_nil] using this
  |some a=>
   have hr:=run_append_grow (P:=prog) w 24 ty 3 i0 (.int .i64 0) underlying24 hi hz0 a 0 0 [] Aac (λj v e=>by simp at e) ⟨nb,0,none⟩ 1 1 (aS z) (by rw [hz1'];rfl) (World.news_of_block hl) Aaa Aaa (by rw [hz2];exact growslice_fits (by omega) (by omega))
   obtain⟨v',w',hr2,ho,hg,hw⟩:=dR w w.heap.size 24 ty 3 i0 (.int .i64 0) 1 8 underlying24 hi hz0 hz1' hz2 rfl Aae (.slice none 0 0) 0 [] (World.ownsRow_nil w _ _ _) ⟨nb,0,none⟩ 1 1 (aS z) rfl (World.news_of_block hl) Acu hmx ajt (Nat.le_refl _)
   have he:=hr2.symm.trans (run_append_nil (P:=prog) w 24 ty 3 i0 (.int .i64 0) underlying24 hi hz0 ⟨nb,0,none⟩ 1 1 (aS z) (by rw [hz1'];rfl) (World.news_of_block hl) Aaa Aaa (by rw [hz2];omega))
   simp only[Result.ok.injEq] at he
   obtain⟨rfl,rfl⟩:=he
   refine⟨w.heap.size,grownCap w 1 0 3,_,Abh,?_,hg,.inr (Nat.le_refl _)⟩
   have:=GR.own_lower ho (Nat.zero_le _)
   simpa [GR.flat_one,GR.flat_nil] using this
 .rw [if_neg hn];have hown:=h.o hn
  have hpos:0 < ids.length:=by
   cases ids with
   |nil=>exact absurd rfl hn
   |cons _ _=>simp
  obtain⟨e,_,_⟩:=h.W 0 hpos;subst e;obtain⟨v',w',hr,ho,hg,hw⟩:=dR w 0 24 ty 3 i0 (.int .i64 0) 1 8 underlying24 hi hz0 hz1' hz2 rfl Aae _ ids.length (GR.flat aS ids) hown ⟨nb,0,none⟩ 1 1 (aS z) rfl (World.news_of_block hl) Acu hmx ajt (Nat.zero_le _);rcases ho.2 with⟨_,h0⟩|⟨g2,cq,cur,hv,hbg,rest⟩
  .omega
  .subst hv;refine⟨g2,cq,w',hr,?_,hg,?_⟩
   .rw [GR.flat_append,GR.flat_one];exact ho
   .rcases hw g2 rfl with h1|h1
    .have:x=g2:=by simpa [Value.ownBlock] using h1
     exact .inl ⟨this.symm,hn⟩
    .exact .inr h1
theorem Au {cs:Array Value} {t:TypeId} (h:w.heap[g]?=some (.cells cs t (0,0))) (hc:cs[i]?=some v):w.setCell ⟨g,i,none⟩ v=w:=by
 unfold World.setCell
 have e:w.heap.modify g (fun
  | .cells c elem frozen=> .cells (if (⟨g,i,none⟩:Addr).spot.isSome then c else c.setIfInBounds i v) elem frozen
  |o=>o)=w.heap:=by
  apply Array.ext_getElem?
  intro j
  rw [Array.getElem?_modify]
  by_cases hj:g=j
  .rw [if_pos hj,<-hj,h]
   have hil:i < cs.size:=by
    rcases Nat.lt_or_ge i cs.size with h'|h'
    .exact h'
    .rw [Array.getElem?_eq_none h'] at hc;cases hc
   have e2:cs.setIfInBounds i v=cs:=by
    apply Array.ext_getElem?
    intro j;rw [Array.getElem?_setIfInBounds];by_cases e:i=j
    .subst e;rw [if_pos rfl,if_pos hil];exact hc.symm
    .rw [if_neg e]
   simp[e2]
  .rw [if_neg hj]
 exact congrArg (λx=>({w with heap:=x}:World)) e
theorem uf.seen0 (h:uf w c g n A W) (hp:0 < n.seen.length):
 ∃gs b cc,A.s=some ⟨gs,0,none⟩/\gs≠g/\gs < W.heap.size/\w.heap.size < gs/\W.cell? ⟨gs,2,none⟩=some (.slice b n.seen[0].ids.length cc)/\W.frozen? ⟨gs,2,none⟩=false/\
  ∀(W2:World) (nb:Nat) (z:Int) (ty:TypeId),aY W W2->W2.heap[nb]?=some (.cells #[.int .i64 z] 3 (0,0))->n.seen[0].ids.length<=1000->
   ∃g2 cq w',(Builtin.append_ #[24,24] ty #[.slice b n.seen[0].ids.length cc,.slice (some ⟨nb,0,none⟩) 1 1]).run prog W2= .ok (.slice (some ⟨g2,0,none⟩) (n.seen[0].ids.length+1) cq) w'/\Below (w.heap.size+1) W2 w'/\w'.heap[g]?=W.heap[g]?/\w'.heap[gs]?=W.heap[gs]?/\
    ∀V,aY w' V->uf w c g (dA n (n.seen.set 0 ⟨n.seen[0].f,n.seen[0].l,n.seen[0].ids++[z]⟩)) A (V.setCell ⟨gs,2,none⟩ (.slice (some ⟨g2,0,none⟩) (n.seen[0].ids.length+1) cq)):=by
 obtain⟨gk,gs,I,col,hr,h0,hcg⟩:=h.rm;obtain⟨⟨T,hT,hlT,hq⟩,hy⟩:=hr.s;obtain⟨b,cc,hT0,hwo⟩:=hq 0 hp;have hTp:0 < T.length:=Aaa
 obtain⟨hA,hgl,hcells⟩:=hT 0 hTp;have c4:col gs=4:=hr.c4 gs (dK hp);have hgn:gs≠g:=λe=>by rw [e,hcg] at c4;cases c4
 have hgw:w.heap.size < gs:=by
  rcases Nat.lt_or_ge w.heap.size gs with h'|h'
  .exact h'
  .rw [h0 gs h'] at c4;cases c4
 have hTe:T[0]=⟨n.seen[0].f,n.seen[0].l,.slice b n.seen[0].ids.length cc⟩:=by
  rw [List.getElem?_eq_getElem hTp] at hT0;simpa using hT0
 have k2:=hcells 2 Aaa;rw [hTe] at k2;refine⟨gs,b,cc,hA,hgn,hgl,hgw,by simpa using k2.1,by simpa using k2.2,λW2 nb z ty hb hn hid=>?_⟩;have hK2:KC col 9 W W2:=KC.of_below hb;have aBO:WO W2 b cc (I 0) n.seen[0].ids:=hwo.keeps (F:=[]) (aC.of_below hb) (λ_ _=>Aac);obtain⟨g2,cq,w',hrun,hown,hgr,hwh⟩:=IC ty aBO hn hid;have hz0:=hb.size;have hgg:=aA h.own;have hi0:n.seen[0].ids≠[]->col (I 0)=5:=λhne=>hr.ci _ (jH hp _ (dK (by cases hd:n.seen[0].ids with|nil=>exact absurd hd hne|cons _ _=>simp)))
 have hil:n.seen[0].ids≠[]->I 0 < W.heap.size:=λhne=>(jK hr.s.w).2 _ (jH hp _ (dK (by cases hd:n.seen[0].ids with|nil=>exact absurd hd hne|cons _ _=>simp)))
 have hrow:∀x,(if n.seen[0].ids=[] then none else some (I 0))=some x->x=I 0/\n.seen[0].ids≠[]:=λx hx=>by
  by_cases hne:n.seen[0].ids=[]
  .rw [if_pos hne] at hx;cases hx
  .rw [if_neg hne] at hx;exact⟨by simpa using hx.symm,hne⟩
 have hk5:KC col 5 W2 w':=KC.grown hgr (λx hx=>by rw [(hrow x hx).1];exact hi0 (hrow x hx).2)
 have hkeep:aC (if n.seen[0].ids=[] then[] else[I 0]) W2 w':=⟨hgr.os,hgr.tape,hgr.output,hgr.size,λx hx hm=>hgr.block x hx (λe=>by
  have h1:=hrow x e.symm
  rw [if_neg h1.2,h1.1] at hm
  simp at hm)⟩
 have hbw:Below (w.heap.size+1) W2 w':=⟨hgr.os,hgr.tape,hgr.output,hgr.size,λx hx=>hgr.block x Aaa (λe=>by
  have h1:=hrow x e.symm
  have h2:=hi0 h1.2
  rw [<-h1.1,h0 x Aaa] at h2
  cases h2)⟩
 have hbg:w'.heap[g]?=W.heap[g]?:=by rw [hk5.block g Aaa (by rw [hcg];omega),hb.block g hgg]
 have hbs:w'.heap[gs]?=W.heap[gs]?:=by rw [hk5.block gs Aaa (by rw [c4];omega),hb.block gs hgl]
 refine⟨g2,cq,w',hrun,hbw,hbg,hbs,λV hV=>?_⟩;have hzV:=hV.size;have hzw:=hgr.size;have aBb:g2 < w'.heap.size:=(hown.lt g2 rfl).2;obtain⟨cs,hcs⟩:=hy hp;have ajv:V.heap[gs]?=some (.cells cs 90 (0,0)):=by rw [hV.block gs Aaa,hbs];exact hcs
 have ax3:∀j,j < 3->cs[j]?=(eP ⟨n.seen[0].f,n.seen[0].l,.slice b n.seen[0].ids.length cc⟩)[j]?:=λj hj=>by
  have h1:=(hcells j hj).1
  rw [cell_of_row W gs _ _ _ (0,0) hcs,hTe] at h1
  simpa using h1
 have hset:GR.setW V gs (0*3) (eP ⟨n.seen[0].f,n.seen[0].l,.slice (some ⟨g2,0,none⟩) (n.seen[0].ids.length+1) cq⟩)=V.setCell ⟨gs,2,none⟩ (.slice (some ⟨g2,0,none⟩) (n.seen[0].ids.length+1) cq):=by
  show((V.setCell ⟨gs,0*3,none⟩ (.int .i64 n.seen[0].f)).setCell ⟨gs,0*3+1,none⟩ (.int .i64 n.seen[0].l)).setCell ⟨gs,0*3+1+1,none⟩ (.slice (some ⟨g2,0,none⟩) (n.seen[0].ids.length+1) cq)=_
  rw [Au ajv (ax3 0 Aaa),Au ajv (ax3 1 Aaa)]
 have hkV:aC (if n.seen[0].ids=[] then[] else[I 0]) W2 V:=hkeep.trans (aC.of_below hV)
 have hFg:∀x,col x≠5->x∉(if n.seen[0].ids=[] then[] else[I 0]):=λx hx hm=>by
  by_cases hne:n.seen[0].ids=[]
  .rw [if_pos hne] at hm;simp at hm
  .rw [if_neg hne] at hm;have:x=I 0:=Aau
   rw [this] at hx;exact hx (hi0 hne)
 have hTV:GR.W eP 3 V A.s gs T:=(hT.keeps (F:=[]) (aC.of_below hb) (λ_ _=>Aac)).keeps hkV (λx hx=>hFg x (by rw [(gV hx).1,c4];omega))
 have ah8:V.ownsRow 0 3 1 (.slice (some ⟨g2,0,none⟩) (n.seen[0].ids++[z]).length cq) (n.seen[0].ids++[z]).length (GR.flat aS (n.seen[0].ids++[z])):=by
  rw [List.length_append];exact GR.own_below hown hV
 have aBP:WO V (some ⟨g2,0,none⟩) cq g2 (n.seen[0].ids++[z]):=WO.of_own (ZV aR ah8) ah8 (λe=>by simp at e)
 have ax7:g2≠gs/\g2≠g/\w.heap.size < g2:=by
  rcases hwh with⟨e,hne⟩|hge
  .have h5:=hi0 hne;rw [<-e] at h5;refine⟨λe=>(by rw [e,c4] at h5;cases h5),λe=>(by rw [e,hcg] at h5;cases h5),?_⟩;rcases Nat.lt_or_ge w.heap.size g2 with h'|h'
   .exact h'
   .rw [h0 g2 h'] at h5;cases h5
  .exact⟨Aaa,Aaa,Aaa⟩
 have hsm:∀x,x < W.heap.size->col x≠5->(if x=g2 then 5 else col x)=col x:=λx hx hc=>if_neg (λe=>by
  rcases hwh with⟨e2,hne⟩|hge
  .rw [e,e2] at hc;exact hc (hi0 hne)
  .omega)
 have hlen:(n.seen.set 0 ⟨n.seen[0].f,n.seen[0].l,n.seen[0].ids++[z]⟩).length=n.seen.length:=List.length_set ..;have hni:=(mq I n.seen).1 hr.ni
 have hother:∀i (hi:i < n.seen.length),i≠0->0 < n.seen[i].ids.length->I i≠g2/\I i∉(if n.seen[0].ids=[] then[] else[I 0]):=λi hi hne hpos=>by
  have hlt:=(jK hr.s.w).2 _ (jH hi _ (dK hpos))
  have hd:n.seen[0].ids≠[]->I i≠I 0:=λh1 e=>hni 0 i hp hi Aaa (by cases hd:n.seen[0].ids with|nil=>exact absurd hd h1|cons _ _=>simp) hpos e.symm
  constructor
  .intro e;rcases hwh with⟨e2,h1⟩|hge
   .exact hd h1 (e.trans e2)
   .omega
  .intro hm;by_cases hne:n.seen[0].ids=[]
   .rw [if_pos hne] at hm;simp at hm
   .rw [if_neg hne] at hm;exact hd hne Aau
 have hSQ:nR (V.setCell ⟨gs,2,none⟩ (.slice (some ⟨g2,0,none⟩) (n.seen[0].ids.length+1) cq)) A.s gs (lS I 0 g2) (n.seen.set 0 ⟨n.seen[0].f,n.seen[0].l,n.seen[0].ids++[z]⟩):=by
  rw [<-hset];have hks:=aK (g:=gs) (eP ⟨n.seen[0].f,n.seen[0].l,.slice (some ⟨g2,0,none⟩) (n.seen[0].ids.length+1) cq⟩) V (0*3);refine⟨⟨T.set 0 ⟨n.seen[0].f,n.seen[0].l,.slice (some ⟨g2,0,none⟩) (n.seen[0].ids.length+1) cq⟩,GR.W.set eF hTV 0 _ hTp,by simpa using hlT,λi hi=>?_⟩,λ_=>⟨_,GR.setW_blk _ (o:=0*3) (xs:=cs.toList) (by simpa using ajv)⟩⟩;have ajz:i < n.seen.length:=Aaq
  by_cases e:i=0
  .subst e;refine⟨some ⟨g2,0,none⟩,cq,?_,?_⟩
   .rw [List.getElem_set_self,List.getElem?_set_self hTp];simp
   .rw [List.getElem_set_self];unfold lS;rw [if_pos rfl];exact aBP.keeps hks (λx hx hm=>by rw [(gV hx).1] at hm;exact ax7.1 Aau)
  .obtain⟨b',c',ht,hi2⟩:=hq i ajz;refine⟨b',c',?_,?_⟩
   .rw [List.getElem_set_ne Aaa,List.getElem?_set_ne Aaa];exact ht
   .rw [List.getElem_set_ne Aaa];unfold lS;rw [if_neg e];refine((hi2.keeps (F:=[]) (aC.of_below hb) (λ_ _=>Aac)).keeps hkV (λx hx=>?_)).keeps hks (λx hx hm=>?_)
    .rw [(gV hx).1];exact(hother i ajz e (gV hx).2).2
    .have h5:=hr.ci x (jH ajz x hx);have:x=gs:=Aau
     rw [this,c4] at h5;cases h5
 have aee:KC col 4 V (V.setCell ⟨gs,2,none⟩ (.slice (some ⟨g2,0,none⟩) (n.seen[0].ids.length+1) cq)):=KC.set c4;have aed:KC col 5 W2 V:=hk5.trans (KC.of_below hV);have lk:=Si hr.k;refine(h.draw (h.cur.keep_below hb) (Keeps.of_below hb)).far (hbw.trans ((hV.mono Aaa).trans ((Below.refl _ V).setCell (p:=⟨gs,2,none⟩) hgw _))) ?_ ?_ ?_
 .have e1:(V.setCell ⟨gs,2,none⟩ (.slice (some ⟨g2,0,none⟩) (n.seen[0].ids.length+1) cq)).heap[g]?=V.heap[g]?:=(aC.set (g:=gs) (i:=2) (w:=V) _).block g Aaa (by simpa using hgn.symm);rw [e1,hV.block g Aaa,hbg,h.own];simp[dD,dA]
 .refine⟨gk,gs,lS I 0 g2,λx=>if x=g2 then 5 else col x,⟨aee.w (aed.w (hK2.w hr.k hr.ck Aaa) hr.ck Aaa) hr.ck Aaa,ES aee (ES aed (ES hK2 hr.p hr.cp Aaa) hr.cp Aaa) hr.cp Aaa,aee.own (aed.own (hK2.own hr.o hr.co Aaa) hr.co Aaa) hr.co Aaa,hSQ,aee.own (aed.own (hK2.own hr.r hr.cr Aaa) hr.cr Aaa) hr.cr Aaa,λx hx=>?_,λx hx hpp=>?_,λx hx=>?_,λx hx=>?_,λx hx=>?_,λx hx=>?_,?_⟩,λx hx=>?_,?_⟩
  .have:=hr.ck x hx;show(if x=g2 then 5 else col x)=1
   rw [hsm x (lk x hx) Aaa];exact this
  .obtain⟨g',off,e,hl,_⟩:=hr.p 0 hpp;have hx':A.p.map (λy=>y.block)=some x:=hx;have:=hr.cp x hx' hpp;have e2:x=g':=by rw [e] at hx';simpa using hx'.symm
   show(if x=g2 then 5 else col x)=2
   rw [e2] at this ⊢;rw [hsm g' hl Aaa];exact this
  .have:=hr.co x hx;show(if x=g2 then 5 else col x)=3
   rw [hsm x (hr.o.lt x hx).2 Aaa];exact this
  .have hx':x∈fp gs n.seen:=by rw [<-SV hlen];exact hx
   have:=hr.c4 x hx';show(if x=g2 then 5 else col x)=4
   rw [hsm x ((jK hr.s.w).1 x hx') Aaa];exact this
  .obtain⟨i,hi,rfl,hpos⟩:=uO hx;show(if lS I 0 g2 i=g2 then 5 else col (lS I 0 g2 i))=5
   by_cases e:i=0
   .rw [if_pos (by unfold lS;rw [if_pos e])]
   .have e1:lS I 0 g2 i=I i:=if_neg e;rw [e1];have hi':i < n.seen.length:=by simpa [dA] using hi
    have hpos':0 < n.seen[i].ids.length:=by
     exact ahG
    by_cases e2:I i=g2
    .rw [if_pos e2]
    .rw [if_neg e2];exact hr.ci _ (jH hi' _ (dK hpos'))
  .have:=hr.cr x hx;show(if x=g2 then 5 else col x)=6
   rw [hsm x (hr.r.lt x hx).2 Aaa];exact this
  .show(vR (lS I 0 g2) (n.seen.set 0 ⟨n.seen[0].f,n.seen[0].l,n.seen[0].ids++[z]⟩)).Nodup
   rw [mq];intro i j hi hj hij h1 h2;have hj':j < n.seen.length:=Aaa
   have hi':i < n.seen.length:=Aaa
   have ej:lS I 0 g2 j=I j:=if_neg Aaa;rw [List.getElem_set_ne Aaa] at h2;rw [ej];by_cases e:i=0
   .have ei:lS I 0 g2 i=g2:=if_pos e;rw [ei];exact λh3=>(hother j hj' Aaa h2).1 h3.symm
   .have ei:lS I 0 g2 i=I i:=if_neg e;rw [ei];rw [List.getElem_set_ne Aaa] at h1;exact hni i j hi' hj' hij h1 h2
  .show(if x=g2 then 5 else col x)=0
   rw [if_neg Aaa];exact h0 x hx
  .show(if g=g2 then 5 else col g)=0
   rw [if_neg (λe=>ax7.2.1 e.symm)];exact hcg
 .refine⟨h.sz.k,h.sz.p,h.sz.o,by simpa [dA] using h.sz.s,h.sz.r,h.sz.pk,h.sz.ok,λx hx=>?_,h.sz.rk⟩;rcases List.mem_or_eq_of_mem_set hx with h1|h1
  .exact h.sz.sk x h1
  .rw [h1];simp;omega
theorem uf.outPut (h:uf w c g n A W) (x:lJ) (hx:x.k.size<=1048576) (nb:Nat) (hl:W.heap[nb]?=some (.cells (aW x).toArray 95 (0,0))) (hlen:n.out.length<=1000):
 ∃a' c' w',(Builtin.append_ #[26,26] 26 #[.slice A.o n.out.length A.co,.slice (some ⟨nb,0,none⟩) 1 1]).run prog W= .ok (.slice a' (n.out.length+1) c') w'/\w'.heap[g]?=W.heap[g]?/\
  uf w c g {n with out:=n.out++[x]} {A with o:=a',co:=c'} (w'.setCell ⟨g,5,none⟩ (.slice a' (n.out.length+1) c')):=by
 obtain⟨i0,hi,hz0,hz1,hz2⟩:=info_parts Es;obtain⟨gk,gs,I,col,hr,h0,hcg⟩:=h.rm;have hgl:=aA h.own;obtain⟨v',w',hrun,ho,hg,hw⟩:=dR (P:=prog) W 0 26 26 95 i0 _ 4 40 underlying26 hi hz0 hz1 hz2 rfl Aae _ n.out.length (GR.flat aW n.out) hr.o ⟨nb,0,none⟩ 1 1 (aW x) rfl (World.news_of_block hl) (by intro u hu;simp only[aW,List.mem_cons,List.not_mem_nil,or_false] at hu;rcases hu with rfl|rfl|rfl|rfl<;>rfl) Aah Aaa (Nat.zero_le _)
 have ho':w'.ownsRow 0 95 4 v' (n.out++[x]).length (GR.flat aW (n.out++[x])):=by
  rw [GR.flat_append,GR.flat_one,List.length_append];exact ho
 obtain⟨a',c',hv,_⟩:=GR.own_at eu ho';have hv2:v'= .slice a' (n.out.length+1) c':=by rw [hv,List.length_append];rfl
 have hrow:∀y,(Value.slice A.o n.out.length A.co).ownBlock=some y->w.heap.size < y/\y≠g:=λy hy=>by
  have h3:=hr.co y hy
  refine⟨?_,λe=>by rw [e,hcg] at h3;cases h3⟩
  rcases Nat.lt_or_ge w.heap.size y with h'|h'
  .exact h'
  .rw [h0 y h'] at h3;cases h3
 open atV in exact agi
theorem uf.reqsPut (h:uf w c g n A W) (x:Rq) (hx:x.k.size<=1048576) (nb:Nat) (hl:W.heap[nb]?=some (.cells (aN x).toArray 97 (0,0))) (hlen:n.reqs.length<=1000):
 ∃a' c' w',(Builtin.append_ #[28,28] 28 #[.slice A.r n.reqs.length A.cr,.slice (some ⟨nb,0,none⟩) 1 1]).run prog W= .ok (.slice a' (n.reqs.length+1) c') w'/\w'.heap[g]?=W.heap[g]?/\
  uf w c g {n with reqs:=n.reqs++[x]} {A with r:=a',cr:=c'} (w'.setCell ⟨g,8,none⟩ (.slice a' (n.reqs.length+1) c')):=by
 obtain⟨i0,hi,hz0,hz1,hz2⟩:=info_parts wS;obtain⟨gk,gs,I,col,hr,h0,hcg⟩:=h.rm;have hgl:=aA h.own;obtain⟨v',w',hrun,ho,hg,hw⟩:=dR (P:=prog) W 0 28 28 97 i0 _ 4 40 underlying28 hi hz0 hz1 hz2 rfl Aae _ n.reqs.length (GR.flat aN n.reqs) hr.r ⟨nb,0,none⟩ 1 1 (aN x) rfl (World.news_of_block hl) (by intro u hu;simp only[aN,List.mem_cons,List.not_mem_nil,or_false] at hu;rcases hu with rfl|rfl|rfl|rfl<;>rfl) Aah Aaa (Nat.zero_le _)
 have ho':w'.ownsRow 0 97 4 v' (n.reqs++[x]).length (GR.flat aN (n.reqs++[x])):=by
  rw [GR.flat_append,GR.flat_one,List.length_append];exact ho
 obtain⟨a',c',hv,_⟩:=GR.own_at bX ho';have hv2:v'= .slice a' (n.reqs.length+1) c':=by rw [hv,List.length_append];rfl
 have hrow:∀y,(Value.slice A.r n.reqs.length A.cr).ownBlock=some y->w.heap.size < y/\y≠g:=λy hy=>by
  have h3:=hr.cr y hy
  refine⟨?_,λe=>by rw [e,hcg] at h3;cases h3⟩
  rcases Nat.lt_or_ge w.heap.size y with h'|h'
  .exact h'
  .rw [h0 y h'] at h3;cases h3
 open atU in exact agi
end Go.Proofs.YtacgbldlonoaaaaGreatDoor
