/- Parts. -/
import Derived.Test.YtacgbldlonoaaaaGreatDoorRt2
namespace Go.Proofs.YtacgbldlonoaaaaGreatDoor
open Go.RowKit
open Mth
def RMg (W:World) (r g:Nat) (n:Nd) (A:bE):Prop:=∃gk gs I col,RMc W A n gk gs I col∧(∀x,x≤r→col x=0)∧col g=0
structure NSt (w:World) (c g:Nat) (n:Nd) (A:bE) (W:World):Prop where
 cur:Cur W c
 keep:Keeps c w W
 clt:c < w.heap.size
 glt:w.heap.size < g
 res:W.heap[w.heap.size]?=some (.cells iO 30 (0,0))
 own:W.heap[g]?=some (.cells (fZ n A) 30 (0,0))
 rm:RMg W w.heap.size g n A
 sz:eH n 1048576
theorem NSt.at {w W:World} {c g:Nat} {n:Nd} {A:bE} (h:NSt w c g n A W):dQ W A n:=by
 obtain⟨_,_,_,_,h1,_⟩:=h.rm;exact h1.at
theorem NSt.draw {w W W':World} {c g:Nat} {n:Nd} {A:bE} (h:NSt w c g n A W) (hc:Cur W' c) (hk:Keeps c W W'):NSt w c g n A W':=by
 have h1:=aA h.res;have h2:=aA h.own;have h3:=h.clt;have h4:=h.glt;refine⟨hc,h.keep.trans hk,h.clt,h.glt,by rw [hk.block _ h1 (by omega)];exact h.res,by rw [hk.block _ h2 (by omega)];exact h.own,?_,h.sz⟩;obtain⟨gk,gs,I,col,hr,h0,hg⟩:=h.rm;exact⟨gk,gs,I,col,hr.kc (k:=0) ⟨hk.os,hk.tape,hk.output,hk.size,fun x hx hn=>hk.block x hx (fun e=>hn (h0 x (by omega)))⟩ (.inl rfl),h0,hg⟩
theorem NSt.new {w W:World} {c g:Nat} {n:Nd} {A:bE} (h:NSt w c g n A W) (x:Obj):NSt w c g n A (W.alloc x):=h.draw (asl h.cur x) (asv x)
theorem NSt.far {w W W':World} {c g:Nat} {n n':Nd} {A A':bE} (h:NSt w c g n A W) (hb:Below (w.heap.size+1) W W') (e:W'.heap[g]?=some (.cells (fZ n' A') 30 (0,0))) (hr:RMg W' w.heap.size g n' A') (hz:eH n' 1048576):NSt w c g n' A' W':=by
 have h3:=h.clt;have hk:=h.keep;exact⟨h.cur.below hb (by omega),⟨hb.os.trans hk.os,hb.tape.trans hk.tape,hb.output.trans hk.output,Nat.le_trans hk.size hb.size,fun k k1 k2=>(hb.block k (by omega)).trans (hk.block k k1 k2)⟩,h.clt,h.glt,(hb.block _ (by omega)).trans h.res,e,hr,hz⟩
theorem RMg.set {W:World} {r g i:Nat} {n:Nd} {A:bE} {v:Value} (h:RMg W r g n A):RMg (W.setCell ⟨g,i,none⟩ v) r g n A:=by
 obtain⟨gk,gs,I,col,hr,h0,hg⟩:=h;exact⟨gk,gs,I,col,hr.kc (k:=0) (KC.set hg) (.inl rfl),h0,hg⟩
theorem RMg.node {W:World} {r g:Nat} {n n':Nd} {A:bE} (h:RMg W r g n A) (e1:n'.kids=n.kids) (e2:n'.pu=n.pu) (e3:n'.out=n.out) (e4:n'.seen=n.seen) (e5:n'.reqs=n.reqs):RMg W r g n' A:=by
 obtain⟨gk,gs,I,col,hr,h0,hg⟩:=h;exact⟨gk,gs,I,col,hr.node e1 e2 e3 e4 e5,h0,hg⟩
theorem NSt.put {w W:World} {c g:Nat} {n n':Nd} {A:bE} (h:NSt w c g n A W) (i:Nat) (v:Value) (e:(fZ n A).setIfInBounds i v=fZ n' A) (e1:n'.kids=n.kids) (e2:n'.pu=n.pu) (e3:n'.out=n.out) (e4:n'.seen=n.seen) (e5:n'.reqs=n.reqs):NSt w c g n' A (W.setCell ⟨g,i,none⟩ v):=
 h.far ((Below.refl _ W).setCell (p:=⟨g,i,none⟩) h.glt v) (by rw [←e];exact bg h.own i v) (h.rm.set.node e1 e2 e3 e4 e5)
  ⟨by rw [e1];exact h.sz.k,by rw [e2];exact h.sz.p,by rw [e3];exact h.sz.o,by rw [e4];exact h.sz.s,by rw [e5];exact h.sz.r,by rw [e2];exact h.sz.pk,by rw [e3];exact h.sz.ok,by rw [e4];exact h.sz.sk,by rw [e5];exact h.sz.rk⟩
def ate (v:Value) (k:Nat) (col:Nat→Nat):Nat→Nat:=fun x=>if v.ownBlock=some x then k else col x
theorem as4 {v:Value} {k x:Nat} {col:Nat→Nat} (h:v.ownBlock=some x):ate v k col x=k:=if_pos h
theorem asU {v:Value} {k x:Nat} {col:Nat→Nat} (h:v.ownBlock≠some x):ate v k col x=col x:=if_neg h
theorem RMg.out {W w2:World} {r g:Nat} {n:Nd} {A:bE} {v:Value} {xs:List jm} {a:Option Addr} {cp:Nat} (h:RMg W r g n A) (hgl:g < W.heap.size) (hrl:r < W.heap.size) (hv:v= .slice a xs.length cp)
 (ho:w2.ownsRow 0 95 4 v xs.length (GR.flat aS xs)) (hg:W.grownBy w2 (Value.slice A.o n.out.length A.co).ownBlock) (hw:∀x,v.ownBlock=some x→(Value.slice A.o n.out.length A.co).ownBlock=some x∨W.heap.size≤x):
 RMg w2 r g {n with out:=xs} {A with o:=a,co:=cp}:=by
 obtain⟨gk,gs,I,col,hr,h0,hcg⟩:=h;have hk:KC col 3 W w2:=KC.grown hg hr.co
 have ne:∀x,x < W.heap.size→col x≠3→v.ownBlock≠some x:=fun x hx hc e=>by
  rcases hw x e with h|h
  ·exact hc (hr.co x h)
  ·omega
 have sm:∀x,x < W.heap.size→col x≠3→ate v 3 col x=col x:=fun x hx hc=>asU (ne x hx hc)
 have lk:=alM hr.k;obtain⟨l4,l5⟩:=nI hr.s.w;refine⟨gk,gs,I,ate v 3 col,⟨hk.w hr.k hr.ck (by omega),asT hk hr.p hr.cp (by omega),by subst hv;exact ho,hk.seenQ hr.s hr.c4 hr.ci (by omega) (by omega),hk.own hr.r hr.cr (by omega),fun x hx=>?_,fun x hx hp=>?_,fun x hx=>by subst hv;exact as4 hx,fun x hx=>?_,fun x hx=>?_,fun x hx=>?_,hr.ni⟩,fun x hx=>?_,?_⟩
 ·have:=hr.ck x hx;rw [sm x (lk x hx) (by omega)];exact this
 ·exact Zb4
 ·have:=hr.c4 x hx;rw [sm x (l4 x hx) (by omega)];exact this
 ·have:=hr.ci x hx;rw [sm x (l5 x hx) (by omega)];exact this
 ·have:=hr.cr x hx;rw [sm x (hr.r.lt x hx).2 (by omega)];exact this
 ·have:=h0 x hx;rw [sm x (by omega) (by omega)];exact this
 ·rw [sm g hgl (by omega)];exact hcg
theorem RMg.reqs {W w2:World} {r g:Nat} {n:Nd} {A:bE} {v:Value} {xs:List Rq} {a:Option Addr} {cp:Nat} (h:RMg W r g n A) (hgl:g < W.heap.size) (hrl:r < W.heap.size) (hv:v= .slice a xs.length cp)
 (ho:w2.ownsRow 0 97 4 v xs.length (GR.flat aK xs)) (hg:W.grownBy w2 (Value.slice A.r n.reqs.length A.cr).ownBlock) (hw:∀x,v.ownBlock=some x→(Value.slice A.r n.reqs.length A.cr).ownBlock=some x∨W.heap.size≤x):
 RMg w2 r g {n with reqs:=xs} {A with r:=a,cr:=cp}:=by
 obtain⟨gk,gs,I,col,hr,h0,hcg⟩:=h;have hk:KC col 6 W w2:=KC.grown hg hr.cr
 have ne:∀x,x < W.heap.size→col x≠6→v.ownBlock≠some x:=fun x hx hc e=>by
  rcases hw x e with h|h
  ·exact hc (hr.cr x h)
  ·omega
 have sm:∀x,x < W.heap.size→col x≠6→ate v 6 col x=col x:=fun x hx hc=>asU (ne x hx hc)
 have lk:=alM hr.k;obtain⟨l4,l5⟩:=nI hr.s.w;refine⟨gk,gs,I,ate v 6 col,⟨hk.w hr.k hr.ck (by omega),asT hk hr.p hr.cp (by omega),hk.own hr.o hr.co (by omega),hk.seenQ hr.s hr.c4 hr.ci (by omega) (by omega),by subst hv;exact ho,fun x hx=>?_,fun x hx hp=>?_,fun x hx=>?_,fun x hx=>?_,fun x hx=>?_,fun x hx=>by subst hv;exact as4 hx,hr.ni⟩,fun x hx=>?_,?_⟩
 ·have:=hr.ck x hx;rw [sm x (lk x hx) (by omega)];exact this
 ·exact Zb4
 ·have:=hr.co x hx;rw [sm x (hr.o.lt x hx).2 (by omega)];exact this
 ·have:=hr.c4 x hx;rw [sm x (l4 x hx) (by omega)];exact this
 ·have:=hr.ci x hx;rw [sm x (l5 x hx) (by omega)];exact this
 ·have:=h0 x hx;rw [sm x (by omega) (by omega)];exact this
 ·rw [sm g hgl (by omega)];exact hcg
theorem RMg.pu {W w2:World} {r g B:Nat} {n:Nd} {A:bE} {RL:List Pu} {a:Option Addr} {cp:Nat} (h:RMg W r g n A) (hgl:g < W.heap.size) (hrl:r < W.heap.size) (hb:Below W.heap.size W w2) (hB:W.heap.size≤B)
 (ho:w2.ownsRow B 143 4 (.slice a RL.length cp) RL.length (GR.flat eG RL)):RMg w2 r g {n with pu:=RL} {A with p:=a,cp:=cp}:=by
 obtain⟨gk,gs,I,col,hr,h0,hcg⟩:=h;have hk:KC col 9 W w2:=KC.of_below hb
 have ne:∀x,x < W.heap.size→(Value.slice a RL.length cp).ownBlock≠some x:=fun x hx e=>by
  have:=(ho.lt x e).1
  omega
 have sm:∀x,x < W.heap.size→ate (.slice a RL.length cp) 2 col x=col x:=fun x hx=>asU (ne x hx)
 have lk:=alM hr.k;obtain⟨l4,l5⟩:=nI hr.s.w;obtain⟨a',c',hv,hat⟩:=GR.own_at aZ ho;cases hv
 refine⟨gk,gs,I,ate (.slice a RL.length cp) 2 col,⟨hk.w hr.k hr.ck (by omega),hat,hk.own hr.o hr.co (by omega),hk.seenQ hr.s hr.c4 hr.ci (by omega) (by omega),hk.own hr.r hr.cr (by omega),fun x hx=>?_,fun x hx hp=>as4 (lq ho hx),fun x hx=>?_,fun x hx=>?_,fun x hx=>?_,fun x hx=>?_,hr.ni⟩,fun x hx=>?_,?_⟩
 ·have:=hr.ck x hx;rw [sm x (lk x hx)];exact this
 ·have:=hr.co x hx;rw [sm x (hr.o.lt x hx).2];exact this
 ·have:=hr.c4 x hx;rw [sm x (l4 x hx)];exact this
 ·have:=hr.ci x hx;rw [sm x (l5 x hx)];exact this
 ·have:=hr.cr x hx;rw [sm x (hr.r.lt x hx).2];exact this
 ·have:=h0 x hx;rw [sm x (by omega)];exact this
 ·rw [sm g hgl];exact hcg
theorem asZ {w:World} {b:Option Addr} {c x:Nat} {ids:List Int} {z:Int} {nb:Nat} (ty:TypeId) (h:WO w b c x ids) (hl:w.heap[nb]?=some (.cells #[.int .i64 z] 3 (0,0))) (hb:ids.length≤1000):
 ∃g2 cq w',(Builtin.append_ #[24,24] ty #[.slice b ids.length c,.slice (some ⟨nb,0,none⟩) 1 1]).run Tryz.prog w= .ok (.slice (some ⟨g2,0,none⟩) (ids.length+1) cq) w'∧w'.ownsRow 0 3 1 (.slice (some ⟨g2,0,none⟩) (ids.length+1) cq) (ids.length+1) (GR.flat aR (ids++[z]))∧
  w.grownBy w' (if ids=[] then none else some x)∧(g2=x∧ids≠[]∨w.heap.size≤g2):=by
 obtain⟨i0,hi,hz0,hz1,hz2⟩:=info_parts vD;have hz1':i0.size=1:=hz1;have auQ:(ids.length+1)*8≤140737488355328:=by omega
 have hmx:ids.length+1≤maxLen:=by unfold maxLen;omega
 by_cases hn:ids=[]
 ·subst hn;rw [if_pos rfl];have hc:=h.e rfl;subst hc;cases b with
  |none=>
   obtain⟨v',w',hr,ho,hg,hw⟩:=fu w w.heap.size 24 ty 3 i0 (.int .i64 0) 1 8 Tryz.underlying24 hi hz0 hz1' hz2 rfl (by decide) (.slice none 0 0) 0 [] (World.ownsRow_nil w _ _ _) ⟨nb,0,none⟩ 1 1 (aR z) rfl (World.news_of_block hl) (by intro u hu;simp at hu;subst hu;rfl) hmx auQ (Nat.le_refl _)
   rcases ho.2 with⟨_,h0⟩|⟨g2,cq,cur,hv,hbg,rest⟩
   ·simp at h0
   ·subst hv;refine⟨g2,cq,w',hr,?_,hg,.inr hbg⟩;have:=GR.own_lower ho (Nat.zero_le _);simpa [GR.flat_one,GR.flat_nil] using this
  |some a=>
   have hr:=run_append_grow (P:=Tryz.prog) w 24 ty 3 i0 (.int .i64 0) Tryz.underlying24 hi hz0 a 0 0 [] (by simp) (fun j v e=>by simp at e) ⟨nb,0,none⟩ 1 1 (aR z) (by rw [hz1'];rfl) (World.news_of_block hl) (by omega) (by omega) (by rw [hz2];exact growslice_fits (by omega) (by omega))
   obtain⟨v',w',hr2,ho,hg,hw⟩:=fu w w.heap.size 24 ty 3 i0 (.int .i64 0) 1 8 Tryz.underlying24 hi hz0 hz1' hz2 rfl (by decide) (.slice none 0 0) 0 [] (World.ownsRow_nil w _ _ _) ⟨nb,0,none⟩ 1 1 (aR z) rfl (World.news_of_block hl) (by intro u hu;simp at hu;subst hu;rfl) hmx auQ (Nat.le_refl _)
   have he:=hr2.symm.trans (run_append_nil (P:=Tryz.prog) w 24 ty 3 i0 (.int .i64 0) Tryz.underlying24 hi hz0 ⟨nb,0,none⟩ 1 1 (aR z) (by rw [hz1'];rfl) (World.news_of_block hl) (by omega) (by omega) (by rw [hz2];omega))
   simp only[Result.ok.injEq] at he
   obtain⟨rfl,rfl⟩:=he
   refine⟨w.heap.size,grownCap w 1 0 3,_,by simpa using hr,?_,hg,.inr (Nat.le_refl _)⟩
   have:=GR.own_lower ho (Nat.zero_le _)
   simpa [GR.flat_one,GR.flat_nil] using this
 ·rw [if_neg hn];have hown:=h.o hn
  have hpos:0 < ids.length:=by
   cases ids with
   |nil=>exact absurd rfl hn
   |cons _ _=>simp
  obtain⟨e,_,_⟩:=h.W 0 hpos;subst e;obtain⟨v',w',hr,ho,hg,hw⟩:=fu w 0 24 ty 3 i0 (.int .i64 0) 1 8 Tryz.underlying24 hi hz0 hz1' hz2 rfl (by decide) _ ids.length (GR.flat aR ids) hown ⟨nb,0,none⟩ 1 1 (aR z) rfl (World.news_of_block hl) (by intro u hu;simp at hu;subst hu;rfl) hmx auQ (Nat.zero_le _);rcases ho.2 with⟨_,h0⟩|⟨g2,cq,cur,hv,hbg,rest⟩
  ·omega
  ·subst hv;refine⟨g2,cq,w',hr,?_,hg,?_⟩
   ·rw [GR.flat_append,GR.flat_one];exact ho
   ·rcases hw g2 rfl with h1|h1
    ·have:x=g2:=by simpa [Value.ownBlock] using h1
     exact .inl ⟨this.symm,hn⟩
    ·exact .inr h1
theorem asI {w:World} {g i:Nat} {v:Value} {cs:Array Value} {t:TypeId} (h:w.heap[g]?=some (.cells cs t (0,0))) (hc:cs[i]?=some v):w.setCell ⟨g,i,none⟩ v=w:=by
 unfold World.setCell
 have e:w.heap.modify g (fun
  | .cells c elem frozen=> .cells (if (⟨g,i,none⟩:Addr).spot.isSome then c else c.setIfInBounds i v) elem frozen
  |o=>o)=w.heap:=by
  apply Array.ext_getElem?
  intro j
  rw [Array.getElem?_modify]
  by_cases hj:g=j
  ·rw [if_pos hj,←hj,h]
   have hil:i < cs.size:=by
    rcases Nat.lt_or_ge i cs.size with h'|h'
    ·exact h'
    ·rw [Array.getElem?_eq_none h'] at hc;cases hc
   have e2:cs.setIfInBounds i v=cs:=by
    apply Array.ext_getElem?
    intro j;rw [Array.getElem?_setIfInBounds];by_cases e:i=j
    ·subst e;rw [if_pos rfl,if_pos hil];exact hc.symm
    ·rw [if_neg e]
   simp[e2]
  ·rw [if_neg hj]
 exact congrArg (fun x=>({w with heap:=x}:World)) e
theorem NSt.seen0 {w W:World} {c g:Nat} {n:Nd} {A:bE} (h:NSt w c g n A W) (hp:0 < n.seen.length):
 ∃gs b cc,A.s=some ⟨gs,0,none⟩∧gs≠g∧gs < W.heap.size∧w.heap.size < gs∧W.cell? ⟨gs,2,none⟩=some (.slice b n.seen[0].ids.length cc)∧W.frozen? ⟨gs,2,none⟩=false∧
  ∀(W2:World) (nb:Nat) (z:Int) (ty:TypeId),Below W.heap.size W W2→W2.heap[nb]?=some (.cells #[.int .i64 z] 3 (0,0))→n.seen[0].ids.length≤1000→
   ∃g2 cq w',(Builtin.append_ #[24,24] ty #[.slice b n.seen[0].ids.length cc,.slice (some ⟨nb,0,none⟩) 1 1]).run Tryz.prog W2= .ok (.slice (some ⟨g2,0,none⟩) (n.seen[0].ids.length+1) cq) w'∧Below (w.heap.size+1) W2 w'∧w'.heap[g]?=W.heap[g]?∧w'.heap[gs]?=W.heap[gs]?∧
    ∀V,Below w'.heap.size w' V→NSt w c g (bY n (n.seen.set 0 ⟨n.seen[0].f,n.seen[0].l,n.seen[0].ids++[z]⟩)) A (V.setCell ⟨gs,2,none⟩ (.slice (some ⟨g2,0,none⟩) (n.seen[0].ids.length+1) cq)):=by
 obtain⟨gk,gs,I,col,hr,h0,hcg⟩:=h.rm;obtain⟨⟨T,hT,hlT,hq⟩,hy⟩:=hr.s;obtain⟨b,cc,hT0,hwo⟩:=hq 0 hp;have hTp:0 < T.length:=by omega
 obtain⟨hA,hgl,hcells⟩:=hT 0 hTp;have c4:col gs=4:=hr.c4 gs (dz hp);have hgn:gs≠g:=fun e=>by rw [e,hcg] at c4;cases c4
 have hgw:w.heap.size < gs:=by
  rcases Nat.lt_or_ge w.heap.size gs with h'|h'
  ·exact h'
  ·rw [h0 gs h'] at c4;cases c4
 have hTe:T[0]=⟨n.seen[0].f,n.seen[0].l,.slice b n.seen[0].ids.length cc⟩:=by
  rw [List.getElem?_eq_getElem hTp] at hT0;simpa using hT0
 have k2:=hcells 2 (by omega);rw [hTe] at k2;refine⟨gs,b,cc,hA,hgn,hgl,hgw,by simpa using k2.1,by simpa using k2.2,fun W2 nb z ty hb hn hid=>?_⟩;have hK2:KC col 9 W W2:=KC.of_below hb;have avL:WO W2 b cc (I 0) n.seen[0].ids:=hwo.keeps (F:=[]) (aC.of_below hb) (fun _ _=>by simp);obtain⟨g2,cq,w',hrun,hown,hgr,hwh⟩:=asZ ty avL hn hid;have hz0:=hb.size;have hgg:=aA h.own;have hi0:n.seen[0].ids≠[]→col (I 0)=5:=fun hne=>hr.ci _ (iL hp _ (dz (by cases hd:n.seen[0].ids with|nil=>exact absurd hd hne|cons _ _=>simp)))
 have hil:n.seen[0].ids≠[]→I 0 < W.heap.size:=fun hne=>(nI hr.s.w).2 _ (iL hp _ (dz (by cases hd:n.seen[0].ids with|nil=>exact absurd hd hne|cons _ _=>simp)))
 have hrow:∀x,(if n.seen[0].ids=[] then none else some (I 0))=some x→x=I 0∧n.seen[0].ids≠[]:=fun x hx=>by
  by_cases hne:n.seen[0].ids=[]
  ·rw [if_pos hne] at hx;cases hx
  ·rw [if_neg hne] at hx;exact⟨by simpa using hx.symm,hne⟩
 have hk5:KC col 5 W2 w':=KC.grown hgr (fun x hx=>by rw [(hrow x hx).1];exact hi0 (hrow x hx).2)
 have hkeep:aC (if n.seen[0].ids=[] then[] else[I 0]) W2 w':=⟨hgr.os,hgr.tape,hgr.output,hgr.size,fun x hx hm=>hgr.block x hx (fun e=>by
  have h1:=hrow x e.symm
  rw [if_neg h1.2,h1.1] at hm
  simp at hm)⟩
 have hbw:Below (w.heap.size+1) W2 w':=⟨hgr.os,hgr.tape,hgr.output,hgr.size,fun x hx=>hgr.block x (by omega) (fun e=>by
  have h1:=hrow x e.symm
  have h2:=hi0 h1.2
  rw [←h1.1,h0 x (by omega)] at h2
  cases h2)⟩
 have hbg:w'.heap[g]?=W.heap[g]?:=by rw [hk5.block g (by omega) (by rw [hcg];omega),hb.block g hgg]
 have hbs:w'.heap[gs]?=W.heap[gs]?:=by rw [hk5.block gs (by omega) (by rw [c4];omega),hb.block gs hgl]
 refine⟨g2,cq,w',hrun,hbw,hbg,hbs,fun V hV=>?_⟩;have hzV:=hV.size;have hzw:=hgr.size;have arF:g2 < w'.heap.size:=(hown.lt g2 rfl).2;obtain⟨cs,hcs⟩:=hy hp;have auR:V.heap[gs]?=some (.cells cs 90 (0,0)):=by rw [hV.block gs (by omega),hbs];exact hcs
 have avd:∀j,j < 3→cs[j]?=(cu ⟨n.seen[0].f,n.seen[0].l,.slice b n.seen[0].ids.length cc⟩)[j]?:=fun j hj=>by
  have h1:=(hcells j hj).1
  rw [cell_of_row W gs _ _ _ (0,0) hcs,hTe] at h1
  simpa using h1
 have hset:GR.setW V gs (0*3) (cu ⟨n.seen[0].f,n.seen[0].l,.slice (some ⟨g2,0,none⟩) (n.seen[0].ids.length+1) cq⟩)=V.setCell ⟨gs,2,none⟩ (.slice (some ⟨g2,0,none⟩) (n.seen[0].ids.length+1) cq):=by
  show((V.setCell ⟨gs,0*3,none⟩ (.int .i64 n.seen[0].f)).setCell ⟨gs,0*3+1,none⟩ (.int .i64 n.seen[0].l)).setCell ⟨gs,0*3+1+1,none⟩ (.slice (some ⟨g2,0,none⟩) (n.seen[0].ids.length+1) cq)=_
  rw [asI auR (avd 0 (by omega)),asI auR (avd 1 (by omega))]
 have hkV:aC (if n.seen[0].ids=[] then[] else[I 0]) W2 V:=hkeep.trans (aC.of_below hV)
 have hFg:∀x,col x≠5→x∉(if n.seen[0].ids=[] then[] else[I 0]):=fun x hx hm=>by
  by_cases hne:n.seen[0].ids=[]
  ·rw [if_pos hne] at hm;simp at hm
  ·rw [if_neg hne] at hm;have:x=I 0:=by simpa using hm
   rw [this] at hx;exact hx (hi0 hne)
 have hTV:GR.W cu 3 V A.s gs T:=(hT.keeps (F:=[]) (aC.of_below hb) (fun _ _=>by simp)).keeps hkV (fun x hx=>hFg x (by rw [(gD hx).1,c4];omega))
 have auH:V.ownsRow 0 3 1 (.slice (some ⟨g2,0,none⟩) (n.seen[0].ids++[z]).length cq) (n.seen[0].ids++[z]).length (GR.flat aR (n.seen[0].ids++[z])):=by
  rw [List.length_append];exact GR.own_below hown hV
 have avM:WO V (some ⟨g2,0,none⟩) cq g2 (n.seen[0].ids++[z]):=WO.of_own (Xf aN auH) auH (fun e=>by simp at e)
 have avf:g2≠gs∧g2≠g∧w.heap.size < g2:=by
  rcases hwh with⟨e,hne⟩|hge
  ·have h5:=hi0 hne;rw [←e] at h5;refine⟨fun e=>(by rw [e,c4] at h5;cases h5),fun e=>(by rw [e,hcg] at h5;cases h5),?_⟩;rcases Nat.lt_or_ge w.heap.size g2 with h'|h'
   ·exact h'
   ·rw [h0 g2 h'] at h5;cases h5
  ·exact⟨by omega,by omega,by omega⟩
 have hsm:∀x,x < W.heap.size→col x≠5→(if x=g2 then 5 else col x)=col x:=fun x hx hc=>if_neg (fun e=>by
  rcases hwh with⟨e2,hne⟩|hge
  ·rw [e,e2] at hc;exact hc (hi0 hne)
  ·omega)
 have hlen:(n.seen.set 0 ⟨n.seen[0].f,n.seen[0].l,n.seen[0].ids++[z]⟩).length=n.seen.length:=List.length_set ..;have hni:=(lZ I n.seen).1 hr.ni
 have hother:∀i (hi:i < n.seen.length),i≠0→0 < n.seen[i].ids.length→I i≠g2∧I i∉(if n.seen[0].ids=[] then[] else[I 0]):=fun i hi hne hpos=>by
  have hlt:=(nI hr.s.w).2 _ (iL hi _ (dz hpos))
  have hd:n.seen[0].ids≠[]→I i≠I 0:=fun h1 e=>hni 0 i hp hi (by omega) (by cases hd:n.seen[0].ids with|nil=>exact absurd hd h1|cons _ _=>simp) hpos e.symm
  constructor
  ·intro e;rcases hwh with⟨e2,h1⟩|hge
   ·exact hd h1 (e.trans e2)
   ·omega
  ·intro hm;by_cases hne:n.seen[0].ids=[]
   ·rw [if_pos hne] at hm;simp at hm
   ·rw [if_neg hne] at hm;exact hd hne (by simpa using hm)
 have hSQ:lJ (V.setCell ⟨gs,2,none⟩ (.slice (some ⟨g2,0,none⟩) (n.seen[0].ids.length+1) cq)) A.s gs (ow I 0 g2) (n.seen.set 0 ⟨n.seen[0].f,n.seen[0].l,n.seen[0].ids++[z]⟩):=by
  rw [←hset];have hks:=aL (g:=gs) (cu ⟨n.seen[0].f,n.seen[0].l,.slice (some ⟨g2,0,none⟩) (n.seen[0].ids.length+1) cq⟩) V (0*3);refine⟨⟨T.set 0 ⟨n.seen[0].f,n.seen[0].l,.slice (some ⟨g2,0,none⟩) (n.seen[0].ids.length+1) cq⟩,GR.W.set bC hTV 0 _ hTp,by simpa using hlT,fun i hi=>?_⟩,fun _=>⟨_,GR.setW_blk _ (o:=0*3) (xs:=cs.toList) (by simpa using auR)⟩⟩;have auS:i < n.seen.length:=by simpa using hi
  by_cases e:i=0
  ·subst e;refine⟨some ⟨g2,0,none⟩,cq,?_,?_⟩
   ·rw [List.getElem_set_self,List.getElem?_set_self hTp];simp
   ·rw [List.getElem_set_self];unfold ow;rw [if_pos rfl];exact avM.keeps hks (fun x hx hm=>by rw [(gD hx).1] at hm;exact avf.1 (by simpa using hm))
  ·obtain⟨b',c',ht,hi2⟩:=hq i auS;refine⟨b',c',?_,?_⟩
   ·rw [List.getElem_set_ne (by omega),List.getElem?_set_ne (by omega)];exact ht
   ·rw [List.getElem_set_ne (by omega)];unfold ow;rw [if_neg e];refine((hi2.keeps (F:=[]) (aC.of_below hb) (fun _ _=>by simp)).keeps hkV (fun x hx=>?_)).keeps hks (fun x hx hm=>?_)
    ·rw [(gD hx).1];exact(hother i auS e (gD hx).2).2
    ·have h5:=hr.ci x (iL auS x hx);have:x=gs:=by simpa using hm
     rw [this,c4] at h5;cases h5
 have auv:KC col 4 V (V.setCell ⟨gs,2,none⟩ (.slice (some ⟨g2,0,none⟩) (n.seen[0].ids.length+1) cq)):=KC.set c4;have auu:KC col 5 W2 V:=hk5.trans (KC.of_below hV);have lk:=alM hr.k;refine(h.draw (h.cur.keep_below hb) (Keeps.of_below hb)).far (hbw.trans ((hV.mono (by omega)).trans ((Below.refl _ V).setCell (p:=⟨gs,2,none⟩) hgw _))) ?_ ?_ ?_
 ·have e1:(V.setCell ⟨gs,2,none⟩ (.slice (some ⟨g2,0,none⟩) (n.seen[0].ids.length+1) cq)).heap[g]?=V.heap[g]?:=(aC.set (g:=gs) (i:=2) (w:=V) _).block g (by omega) (by simpa using hgn.symm);rw [e1,hV.block g (by omega),hbg,h.own];simp[fZ,bY]
 ·refine⟨gk,gs,ow I 0 g2,fun x=>if x=g2 then 5 else col x,⟨auv.w (auu.w (hK2.w hr.k hr.ck (by omega)) hr.ck (by omega)) hr.ck (by omega),asT auv (asT auu (asT hK2 hr.p hr.cp (by omega)) hr.cp (by omega)) hr.cp (by omega),auv.own (auu.own (hK2.own hr.o hr.co (by omega)) hr.co (by omega)) hr.co (by omega),hSQ,auv.own (auu.own (hK2.own hr.r hr.cr (by omega)) hr.cr (by omega)) hr.cr (by omega),fun x hx=>?_,fun x hx hpp=>?_,fun x hx=>?_,fun x hx=>?_,fun x hx=>?_,fun x hx=>?_,?_⟩,fun x hx=>?_,?_⟩
  ·have:=hr.ck x hx;show(if x=g2 then 5 else col x)=1
   rw [hsm x (lk x hx) (by omega)];exact this
  ·obtain⟨g',off,e,hl,_⟩:=hr.p 0 hpp;have hx':A.p.map (fun y=>y.block)=some x:=hx;have:=hr.cp x hx' hpp;have e2:x=g':=by rw [e] at hx';simpa using hx'.symm
   show(if x=g2 then 5 else col x)=2
   rw [e2] at this ⊢;rw [hsm g' hl (by omega)];exact this
  ·have:=hr.co x hx;show(if x=g2 then 5 else col x)=3
   rw [hsm x (hr.o.lt x hx).2 (by omega)];exact this
  ·have hx':x∈fp gs n.seen:=by rw [←JY hlen];exact hx
   have:=hr.c4 x hx';show(if x=g2 then 5 else col x)=4
   rw [hsm x ((nI hr.s.w).1 x hx') (by omega)];exact this
  ·obtain⟨i,hi,rfl,hpos⟩:=uf hx;show(if ow I 0 g2 i=g2 then 5 else col (ow I 0 g2 i))=5
   by_cases e:i=0
   ·rw [if_pos (by unfold ow;rw [if_pos e])]
   ·have e1:ow I 0 g2 i=I i:=if_neg e;rw [e1];have hi':i < n.seen.length:=by simpa [bY] using hi
    have hpos':0 < n.seen[i].ids.length:=by
     simp only[bY] at hpos;rw [List.getElem_set_ne (by omega)] at hpos;exact hpos
    by_cases e2:I i=g2
    ·rw [if_pos e2]
    ·rw [if_neg e2];exact hr.ci _ (iL hi' _ (dz hpos'))
  ·have:=hr.cr x hx;show(if x=g2 then 5 else col x)=6
   rw [hsm x (hr.r.lt x hx).2 (by omega)];exact this
  ·show(nM (ow I 0 g2) (n.seen.set 0 ⟨n.seen[0].f,n.seen[0].l,n.seen[0].ids++[z]⟩)).Nodup
   rw [lZ];intro i j hi hj hij h1 h2;have hj':j < n.seen.length:=by omega
   have hi':i < n.seen.length:=by omega
   have ej:ow I 0 g2 j=I j:=if_neg (by omega);rw [List.getElem_set_ne (by omega)] at h2;rw [ej];by_cases e:i=0
   ·have ei:ow I 0 g2 i=g2:=if_pos e;rw [ei];exact fun h3=>(hother j hj' (by omega) h2).1 h3.symm
   ·have ei:ow I 0 g2 i=I i:=if_neg e;rw [ei];rw [List.getElem_set_ne (by omega)] at h1;exact hni i j hi' hj' hij h1 h2
  ·show(if x=g2 then 5 else col x)=0
   rw [if_neg (by omega)];exact h0 x hx
  ·show(if g=g2 then 5 else col g)=0
   rw [if_neg (fun e=>avf.2.1 e.symm)];exact hcg
 ·refine⟨h.sz.k,h.sz.p,h.sz.o,by simpa [bY] using h.sz.s,h.sz.r,h.sz.pk,h.sz.ok,fun x hx=>?_,h.sz.rk⟩;rcases List.mem_or_eq_of_mem_set hx with h1|h1
  ·exact h.sz.sk x h1
  ·rw [h1];simp;omega
theorem NSt.outPut {w W:World} {c g:Nat} {n:Nd} {A:bE} (h:NSt w c g n A W) (x:jm) (hx:x.k.size≤1048576) (nb:Nat) (hl:W.heap[nb]?=some (.cells (aS x).toArray 95 (0,0))) (hlen:n.out.length≤1000):
 ∃a' c' w',(Builtin.append_ #[26,26] 26 #[.slice A.o n.out.length A.co,.slice (some ⟨nb,0,none⟩) 1 1]).run Tryz.prog W= .ok (.slice a' (n.out.length+1) c') w'∧w'.heap[g]?=W.heap[g]?∧
  NSt w c g {n with out:=n.out++[x]} {A with o:=a',co:=c'} (w'.setCell ⟨g,5,none⟩ (.slice a' (n.out.length+1) c')):=by
 obtain⟨i0,hi,hz0,hz1,hz2⟩:=info_parts Eu;obtain⟨gk,gs,I,col,hr,h0,hcg⟩:=h.rm;have hgl:=aA h.own;obtain⟨v',w',hrun,ho,hg,hw⟩:=fu (P:=Tryz.prog) W 0 26 26 95 i0 _ 4 40 Tryz.underlying26 hi hz0 hz1 hz2 rfl (by decide) _ n.out.length (GR.flat aS n.out) hr.o ⟨nb,0,none⟩ 1 1 (aS x) rfl (World.news_of_block hl) (by intro u hu;simp only[aS,List.mem_cons,List.not_mem_nil,or_false] at hu;rcases hu with rfl|rfl|rfl|rfl<;>rfl) (by unfold maxLen;omega) (by omega) (Nat.zero_le _)
 have ho':w'.ownsRow 0 95 4 v' (n.out++[x]).length (GR.flat aS (n.out++[x])):=by
  rw [GR.flat_append,GR.flat_one,List.length_append];exact ho
 obtain⟨a',c',hv,_⟩:=GR.own_at bH ho';have hv2:v'= .slice a' (n.out.length+1) c':=by rw [hv,List.length_append];rfl
 have hrow:∀y,(Value.slice A.o n.out.length A.co).ownBlock=some y→w.heap.size < y∧y≠g:=fun y hy=>by
  have h3:=hr.co y hy
  refine⟨?_,fun e=>by rw [e,hcg] at h3;cases h3⟩
  rcases Nat.lt_or_ge w.heap.size y with h'|h'
  ·exact h'
  ·rw [h0 y h'] at h3;cases h3
 open avz in exact Yb5
theorem NSt.reqsPut {w W:World} {c g:Nat} {n:Nd} {A:bE} (h:NSt w c g n A W) (x:Rq) (hx:x.k.size≤1048576) (nb:Nat) (hl:W.heap[nb]?=some (.cells (aK x).toArray 97 (0,0))) (hlen:n.reqs.length≤1000):
 ∃a' c' w',(Builtin.append_ #[28,28] 28 #[.slice A.r n.reqs.length A.cr,.slice (some ⟨nb,0,none⟩) 1 1]).run Tryz.prog W= .ok (.slice a' (n.reqs.length+1) c') w'∧w'.heap[g]?=W.heap[g]?∧
  NSt w c g {n with reqs:=n.reqs++[x]} {A with r:=a',cr:=c'} (w'.setCell ⟨g,8,none⟩ (.slice a' (n.reqs.length+1) c')):=by
 obtain⟨i0,hi,hz0,hz1,hz2⟩:=info_parts vF;obtain⟨gk,gs,I,col,hr,h0,hcg⟩:=h.rm;have hgl:=aA h.own;obtain⟨v',w',hrun,ho,hg,hw⟩:=fu (P:=Tryz.prog) W 0 28 28 97 i0 _ 4 40 Tryz.underlying28 hi hz0 hz1 hz2 rfl (by decide) _ n.reqs.length (GR.flat aK n.reqs) hr.r ⟨nb,0,none⟩ 1 1 (aK x) rfl (World.news_of_block hl) (by intro u hu;simp only[aK,List.mem_cons,List.not_mem_nil,or_false] at hu;rcases hu with rfl|rfl|rfl|rfl<;>rfl) (by unfold maxLen;omega) (by omega) (Nat.zero_le _)
 have ho':w'.ownsRow 0 97 4 v' (n.reqs++[x]).length (GR.flat aK (n.reqs++[x])):=by
  rw [GR.flat_append,GR.flat_one,List.length_append];exact ho
 obtain⟨a',c',hv,_⟩:=GR.own_at aY ho';have hv2:v'= .slice a' (n.reqs.length+1) c':=by rw [hv,List.length_append];rfl
 have hrow:∀y,(Value.slice A.r n.reqs.length A.cr).ownBlock=some y→w.heap.size < y∧y≠g:=fun y hy=>by
  have h3:=hr.cr y hy
  refine⟨?_,fun e=>by rw [e,hcg] at h3;cases h3⟩
  rcases Nat.lt_or_ge w.heap.size y with h'|h'
  ·exact h'
  ·rw [h0 y h'] at h3;cases h3
 open avy in exact Yb5
set_option maxHeartbeats 1000000
set_option maxRecDepth 100000
theorem auB (c g cap:Nat) (xs:List ByteArray) (w:World) (hc:Cur w c) (hne:g≠c) (hp:0 < xs.length) (hm:xs.length≤1000) (hcell:∀i (hi:i < xs.length),w.cell? ⟨g,i,none⟩=some (.string xs[i])) (hgl:g < w.heap.size):
 Calls Tryz.prog 99 #[.pointer (some ⟨c,0,none⟩),.slice (some ⟨g,0,none⟩) xs.length cap] w fun e w'=>∃x:ByteArray,e= .returned (.string x)∧x∈xs∧Cur w' c∧Keeps c w w':=by
 have HC:=hide hc;have HL:=hide hcell;clear hc hcell;go_enter Tryz.func99,Tryz.ntmps99
 go_wp2_with fail;refine(asj c _ _ HC (by omega) (by omega)).mono ?_;rintro e w1 ⟨x,rfl,hx0,hx1,hc1,hk1⟩;obtain⟨k,rfl⟩:=Int.eq_ofNat_of_zero_le hx0;have hk:k < xs.length:=by omega
 have hcell1:w1.cell? ⟨g,k,none⟩=some (.string xs[k]):=(World.cell?_of_block (w:=w) (hk1.block g hgl hne)).trans (HL k hk);exact Zb8
theorem Keeps.grown {c:Nat} {w w':World} (h:Keeps c w w'):w.grownBy w' (some c):=⟨h.os,h.tape,h.output,h.size,fun k hk hne=>h.block k hk (fun e=>hne (by rw [e]))⟩
end Go.Proofs.YtacgbldlonoaaaaGreatDoor
