/- Parts. -/
import Derived.Test.YtohmklmkjmlpjaaGreatDoorRc6
import Derived.Test.YtohmklmkjmlpjaaGreatDoorRc4
import Derived.Test.YtohmklmkjmlpjaaGreatDoorRc5
import Derived.Test.YtohmklmkjmlpjaaGreatDoorRc2
namespace Go.Proofs.YtohmklmkjmlpjaaGreatDoor
open Go.Proofs.Tryz
set_option maxHeartbeats 4000000
namespace GR
open Go.RowKit
variable {α:Type} {enc:α->List Value} {sz:Nat}
theorem At.news {w:World} {x:Addr} {l:List α} (hs:∀y,(enc y).length=sz) (hz:0 < sz) (h:At enc sz w (some x) l):∀j u,(flat enc l)[j]?=some u->w.cell? (x.add j)=some u:=by
 intro j u hu
 have hj:j < l.length*sz:=by
  have:=(aHe.1 hu).1;rwa [flat_length enc sz hs] at this
 have hq:j / sz < l.length:=Nat.div_lt_of_lt_mul (by rw [aIj];exact hj);have hr:j % sz < sz:=Nat.mod_lt _ hz;obtain⟨g,off,e,hg,hc⟩:=h (j / sz) hq;have hf:=flat_at enc sz hs l (j / sz) hq (j % sz) hr;have ej:j / sz*sz+j % sz=j:=Nat.div_add_mod' j sz;rw [ej] at hf;have h2:=hc (j % sz) hr;exact aiQ
theorem flat_oneCell (h1:∀y,∀u∈enc y,u.oneCell'=true) (l:List α):∀u∈flat enc l,u.oneCell'=true:=by
 intro u hu;unfold flat at hu;rw [aHw] at hu;obtain⟨p,_,hp⟩:=hu;exact h1 p u hp
theorem own_below {w w':World} {B:Nat} {e:TypeId} {sz:Nat} {v:Value} {n:Nat} {xs:List Value} (h:w.ownsRow B e sz v n xs) (hb:aI w w'):w'.ownsRow B e sz v n xs:=
 h.kept (row:=none) ⟨hb.os,hb.tape,hb.output,hb.size,λk hk _=>hb.block k hk⟩ (by cases v.ownBlock with|none=>exact .inl rfl|some k=>exact .inr (by simp))
theorem own_lower {w:World} {b b':Nat} {e:TypeId} {sz:Nat} {v:Value} {n:Nat} {xs:List Value} (h:w.ownsRow b e sz v n xs) (hb:b'<=b):w.ownsRow b' e sz v n xs:=by
 exact ajb
theorem below_append {w wr w1:World} {B:Nat} {e:TypeId} {sz:Nat} {v:Value} {n:Nat} {xs:List Value} {o:Obj} (hb:Below B w wr) (hB:B<=wr.heap.size) (hown:wr.ownsRow B e sz v n xs) (hg:(wr.alloc o).grownBy w1 v.ownBlock):Below B w w1:=
 (hb.alloc hB o).grown hg Aag (λk hk=>(hown.lt k hk).1)
theorem none_nil {w:World} {l:List α} (h:At enc sz w none l):l=[]:=by
 cases l with
 |nil=>rfl
 |cons y l=>
  obtain⟨g,off,e,_⟩:=h 0 Aac;cases e
end GR
open Go.RowKit
open Mth
theorem aA {w:World} {g:Nat} {o:Obj} (h:w.heap[g]?=some o):g < w.heap.size:=by
 exact abg
structure aC (F:List Nat) (w w':World):Prop where
 os:w'.os=w.os
 tape:w'.tape=w.tape
 output:w'.output=w.output
 size:w.heap.size<=w'.heap.size
 block:∀k,k < w.heap.size->k∉F->w'.heap[k]?=w.heap[k]?
theorem aC.refl (F:List Nat) (w:World):aC F w w:=⟨rfl,rfl,rfl,aGh _,λ_ _ _=>rfl⟩
theorem aC.trans {F:List Nat} {a b c:World} (h:aC F a b) (k:aC F b c):aC F a c:=
 ⟨k.os.trans h.os,k.tape.trans h.tape,k.output.trans h.output,aGm h.size k.size,λi hi hg=>(k.block i (aGq hi h.size) hg).trans (h.block i hi hg)⟩
theorem aC.mono {F F':List Nat} {a b:World} (h:aC F a b) (hs:∀x∈F,x∈F'):aC F' a b:=
 ⟨h.os,h.tape,h.output,h.size,λi hi hg=>h.block i hi (λhx=>hg (hs i hx))⟩
theorem aC.of_below {F:List Nat} {w w':World} (h:aI w w'):aC F w w':=⟨h.os,h.tape,h.output,h.size,λk hk _=>h.block k hk⟩
theorem aC.set {g i:Nat} {w:World} (v:Value):aC [g] w (w.setCell ⟨g,i,none⟩ v):=
 ⟨rfl,rfl,rfl,Aaq,λk _ hg=>aGx _ _ _ _ (by simpa using hg)⟩
theorem aC.below {F:List Nat} {B:Nat} {w w':World} (h:aC F w w') (hB:∀x∈F,B<=x) (hs:B<=w.heap.size):Below B w w':=
 ⟨h.os,h.tape,h.output,h.size,λk hk=>h.block k Aaa (λhx=>by have:=hB k hx;omega)⟩
theorem aC.obj {F:List Nat} {w w':World} {g:Nat} {o:Obj} (hk:aC F w w') (h:w.heap[g]?=some o) (hg:g∉F):w'.heap[g]?=some o:=by
 rw [hk.block g (aA h) hg];exact h
def fp {α:Type} (g:Nat) (l:List α):List Nat:=if l.isEmpty then[] else[g]
theorem dX {α:Type} {g:Nat} {l:List α} (h:0 < l.length):g∈fp g l:=by
 unfold fp;cases l with
 |nil=>simp at h
 |cons x l=>simp
theorem dQ {α:Type} {g x:Nat} {l:List α} (h:x∈fp g l):x=g/\0 < l.length:=by
 unfold fp at h;cases l with
 |nil=>simp at h
 |cons y l=>simpa using h
theorem jN {α:Type} (g:Nat) (l:List α):(fp g l).Nodup:=by unfold fp;split<;>simp
namespace GR
variable {α:Type}
def W (enc:α->List Value) (sz:Nat) (w:World) (a:Option Addr) (g:Nat) (l:List α):Prop:=∀i (hi:i < l.length),a=some ⟨g,0,none⟩/\g < w.heap.size/\∀j,j < sz->w.cell? ⟨g,i*sz+j,none⟩=(enc l[i])[j]?/\w.frozen? ⟨g,i*sz+j,none⟩=false
variable {enc:α->List Value} {sz:Nat}
theorem W.at {w:World} {a:Option Addr} {g:Nat} {l:List α} (h:W enc sz w a g l):At enc sz w a l:=λi hi=>
 ⟨g,0,(h i hi).1,(h i hi).2.1,λj hj=>by rw [aHj];exact((h i hi).2.2 j hj).1⟩
theorem W.of_blk {w:World} {t:TypeId} {g:Nat} {l:List α} (hs:∀x,(enc x).length=sz) (h:Blk enc t w g l):W enc sz w (some ⟨g,0,none⟩) g l:=λi hi=>
 ⟨rfl,Blk.lt h,λj hj=>⟨Blk.cell h hs i hi j hj,Blk.free h _⟩⟩
theorem W.nil {w:World} {a:Option Addr} {g:Nat}:W enc sz w a g []:=λi hi=>by simp at hi
theorem W.keeps {F:List Nat} {w w':World} {a:Option Addr} {g:Nat} {l:List α} (h:W enc sz w a g l) (hk:aC F w w') (hd:∀x∈fp g l,x∉F):W enc sz w' a g l:=λi hi=>by
 obtain⟨e,hg,hc⟩:=h i hi;have hne:g∉F:=hd g (dX Aaa);exact aiC
theorem W.below {w w':World} {a:Option Addr} {g:Nat} {l:List α} (h:W enc sz w a g l) (hb:aI w w'):W enc sz w' a g l:=h.keeps (F:=[]) (aC.of_below hb) (λ_ _=>Aac)
theorem W.of_own {w:World} {B:Nat} {t:TypeId} {v:Value} {l:List α} (hs:∀x,(enc x).length=sz) (h:w.ownsRow B t sz v l.length (flat enc l)):∃a c g,v= .slice a l.length c/\W enc sz w a g l/\(∀x∈fp g l,B<=x/\x < w.heap.size)/\(∀x∈fp g l,v.ownBlock=some x):=by
 obtain⟨a,c,rfl,hat⟩:=own_at hs h;rcases h.2 with⟨hv,hn⟩|⟨g,cap,cur,hv,hg,hblk,_⟩
 .have hl:l=[]:=aGM hn;subst hl;exact⟨_,_,0,rfl,W.nil,λx hx=>by simp[fp] at hx,λx hx=>by simp[fp] at hx⟩
 .cases hv
  refine⟨_,_,g,rfl,λi hi=>?_,λx hx=>?_,λx hx=>?_⟩
  .exact aiD
  .rw [(dQ hx).1];exact⟨hg,aA hblk⟩
  .rw [(dQ hx).1];rfl
end GR
theorem tZ {g k:Nat}:∀(vs:List Value) (w:World) (o:Nat),k < o\/o+vs.length<=k->(GR.setW w g o vs).cell? ⟨g,k,none⟩=w.cell? ⟨g,k,none⟩:=by
 exact aip
theorem Ed {g:Nat}:∀(vs:List Value) (w:World) (o:Nat),(∀j,j < vs.length->∃v,w.cell? ⟨g,o+j,none⟩=some v)->∀j,j < vs.length->(GR.setW w g o vs).cell? ⟨g,o+j,none⟩=vs[j]?:=by
 intro vs;induction vs with
 |nil=>intro w o _ j hj;simp at hj
 |cons v vs ih=>
  intro w o h j hj;cases j with
  |zero=>
   obtain⟨v0,hv0⟩:=h 0 Aac;rw [aIa] at hv0 ⊢;refine(tZ vs (w.setCell ⟨g,o,none⟩ v) (o+1) Aaa).trans ?_;rw [aId _ _ _ hv0];rfl
  |succ j=>
   exact azX
theorem Nw {g k:Nat}:∀(vs:List Value) (w:World) (o:Nat),(GR.setW w g o vs).frozen? ⟨g,k,none⟩=w.frozen? ⟨g,k,none⟩:=by
 exact aiT
theorem Vf {g:Nat}:∀(vs:List Value) (w:World) (o:Nat),(GR.setW w g o vs).heap.size=w.heap.size:=by
 exact aiY
theorem aX {g:Nat}:∀(vs:List Value) (w:World) (o:Nat),aC [g] w (GR.setW w g o vs):=by
 intro vs;induction vs with
 |nil=>intro w o;exact aC.refl _ _
 |cons v vs ih=>intro w o;exact(aC.set v).trans (ih (w.setCell ⟨g,o,none⟩ v) (o+1))
theorem GR.W.set {α:Type} {enc:α->List Value} {sz:Nat} {w:World} {a:Option Addr} {g:Nat} {l:List α} (hs:∀x,(enc x).length=sz) (h:GR.W enc sz w a g l) (k:Nat) (x:α) (hk:k < l.length):GR.W enc sz (GR.setW w g (k*sz) (enc x)) a g (l.set k x):=λi hi=>by
 have hi':i < l.length:=Aao
 obtain⟨e,hg,hc⟩:=h i hi';refine⟨e,by rw [Vf];exact hg,λj hj=>⟨?_,by rw [Nw];exact(hc j hj).2⟩⟩;by_cases hik:i=k
 .subst hik
  rw [Ed (enc x) w (i*sz) (λj' hj'=>by
   have hj4:j' < sz:=by rw [hs] at hj';exact hj'
   have h1:=(hc j' hj4).1
   rw [aGo (by rw [hs];exact hj4)] at h1
   exact⟨_,h1⟩) j (by rw [hs];exact hj)]
  simp
 .have hcase:i*sz+j < k*sz\/k*sz+sz<=i*sz+j:=by
   rcases Nat.lt_or_gt_of_ne hik with h'|h'
   .left
    have:=aHZ sz (show i+1<=k by omega);exact abz
   .right
    have:=aHZ sz (show k+1<=i by omega);exact abz
  rw [tZ (enc x) w (k*sz) (by rw [hs];exact hcase),(hc j hj).1,aGQ Aaa]
def nN {α:Type} (mk:Nat->α) (c s:Nat) (l:List α) (k:Nat):List α:=(List.range k).map (λi=>mk (s+c*i))++l.drop k
theorem gU {α:Type} (mk:Nat->α) (c s:Nat) (l:List α) (k:Nat) (hk:k<=l.length):(nN mk c s l k).length=l.length:=by simp[nN];omega
theorem adk {α:Type} (mk:Nat->α) (c s:Nat) (l:List α):nN mk c s l 0=l:=by simp[nN]
theorem Eu {α:Type} (mk:Nat->α) (c s:Nat) (l:List α) (k:Nat) (hk:k < l.length):(nN mk c s l k).set k (mk (s+c*k))=nN mk c s l (k+1):=by
 have e:l.drop k=l[k]::l.drop (k+1):=aG1 hk;unfold nN;rw [e,aHL _ _ Aac];simp only[aHi,List.length_range,Nat.sub_self,List.set_cons_zero,aIn,List.map_append,List.map_cons,List.map_nil,aGN,List.cons_append,aHI]
theorem M8 {α:Type} (mk:Nat->α) (c s:Nat) (l:List α) (n k:Nat) (hk:k < n) (hn:n<=l.length):(nN mk c s l n)[k]'(by rw [gU mk c s l n hn];omega)=mk (s+c*k):=by
 unfold nN;rw [List.getElem_append_left Abn];simp
theorem jC {α:Type} {g:Nat} {l:List α} {w w':World} (h:aC [g] w w') (hl:0 < l.length):aC (fp g l) w w':=h.mono (λx hx=>by
 have:x=g:=Aah
 rw [this]
 exact dX hl)
theorem Me {α β:Type} {g:Nat} {l:List α} {l':List β} (h:l.length=l'.length):fp g l=fp g l':=by
 unfold fp;cases l with
 |nil=>cases l' with|nil=>rfl|cons y l'=>simp at h
 |cons x l=>cases l' with|nil=>simp at h|cons y l'=>rfl
def GR.C (w:World) (a:Option Addr) (g:Nat) (cs:List Value):Prop:=∀j (hj:j < cs.length),a=some ⟨g,0,none⟩/\g < w.heap.size/\w.cell? ⟨g,j,none⟩=some cs[j]/\w.frozen? ⟨g,j,none⟩=false
theorem GR.C.set {w:World} {a:Option Addr} {g:Nat} {cs:List Value} (h:GR.C w a g cs) (k:Nat) (v:Value):GR.C (w.setCell ⟨g,k,none⟩ v) a g (cs.set k v):=λj hj=>by
 have hj':j < cs.length:=Aav
 obtain⟨e,hg,hc,hf⟩:=h j hj';refine⟨e,by simpa [World.setCell] using hg,?_,by rw [World.frozen?_setCell];exact hf⟩;by_cases hjk:j=k
 .subst hjk;rw [aId _ _ _ hc];simp
 .rw [aHy _ _ _ _ (by simp<;>omega),hc,aGQ Aaa]
theorem GR.C.below {w w':World} {a:Option Addr} {g:Nat} {cs:List Value} (h:GR.C w a g cs) (hb:aI w w'):GR.C w' a g cs:=λj hj=>by
 obtain⟨e,hg,hc,hf⟩:=h j hj;exact⟨e,aGq hg hb.size,(hb.cell (p:=⟨g,j,none⟩) hg).trans hc,(hb.frozen (p:=⟨g,j,none⟩) hg).trans hf⟩
theorem GR.W.toC {α:Type} {enc:α->List Value} {sz:Nat} {w:World} {a:Option Addr} {g:Nat} {l:List α} (hs:∀x,(enc x).length=sz) (hz:0 < sz) (h:GR.W enc sz w a g l):GR.C w a g (GR.flat enc l):=λj hj=>by
 have hj2:j < l.length*sz:=by rwa [GR.flat_length enc sz hs] at hj
 have hq:j / sz < l.length:=Nat.div_lt_of_lt_mul (by rw [aIj];exact hj2);have hr:j % sz < sz:=Nat.mod_lt _ hz;have ej:j / sz*sz+j % sz=j:=Nat.div_add_mod' j sz;obtain⟨e,hg,hc⟩:=h (j / sz) hq;obtain⟨h1,h2⟩:=hc (j % sz) hr;have hf:=GR.flat_at enc sz hs l (j / sz) hq (j % sz) hr;rw [ej] at h1 h2 hf;exact⟨e,hg,by rw [h1,<-hf,aGo hj],h2⟩
theorem GR.C.toW {α:Type} {enc:α->List Value} {sz:Nat} {w:World} {a:Option Addr} {g:Nat} {l:List α} (hs:∀x,(enc x).length=sz) (hz:0 < sz) (h:GR.C w a g (GR.flat enc l)):GR.W enc sz w a g l:=λi hi=>by
 have hlt:∀j,j < sz->i*sz+j < (GR.flat enc l).length:=λj hj=>by
  rw [GR.flat_length enc sz hs]
  have:=aHZ sz (show i+1<=l.length by omega)
  rw [aIh,Nat.one_mul] at this
  omega
 refine⟨(h (i*sz+0) (hlt 0 hz)).1,(h (i*sz+0) (hlt 0 hz)).2.1,λj hj=>?_⟩;obtain⟨_,_,hc,hf⟩:=h (i*sz+j) (hlt j hj);refine⟨?_,hf⟩;rw [hc,<-GR.flat_at enc sz hs l i hi j hj,aGo]
theorem nM (k:Nat) (z:Int) (w:World) (hz:z=k) (h0:0 < k) (hk:(k:Int)<=9223372036854775807):
 Calls Tryz.prog 89 #[.int .i64 z] w (dZ w (.string (mark k))):=by
 subst hz;exact adj k w h0 hk
theorem aL {w:World} {g:Nat} {a0 a1 a2 a3 a4 a5 a6 a7 a8 a9 Ou:Value} {t:TypeId} (h:w.heap[g]?=some (.cells #[a0,a1,a2,a3,a4,a5,a6,a7,a8,a9,Ou] t (0,0))):
 (w.cell? ⟨g,0,none⟩=some a0/\w.cell? ⟨g,1,none⟩=some a1/\w.cell? ⟨g,2,none⟩=some a2/\w.cell? ⟨g,3,none⟩=some a3/\w.cell? ⟨g,4,none⟩=some a4/\w.cell? ⟨g,5,none⟩=some a5/\w.cell? ⟨g,6,none⟩=some a6/\w.cell? ⟨g,7,none⟩=some a7/\w.cell? ⟨g,8,none⟩=some a8/\w.cell? ⟨g,9,none⟩=some a9/\w.cell? ⟨g,10,none⟩=some Ou)/\(w.frozen? ⟨g,0,none⟩=false/\w.frozen? ⟨g,1,none⟩=false/\w.frozen? ⟨g,2,none⟩=false/\w.frozen? ⟨g,3,none⟩=false/\w.frozen? ⟨g,4,none⟩=false/\w.frozen? ⟨g,5,none⟩=false/\w.frozen? ⟨g,6,none⟩=false/\w.frozen? ⟨g,7,none⟩=false/\w.frozen? ⟨g,8,none⟩=false/\w.frozen? ⟨g,9,none⟩=false/\w.frozen? ⟨g,10,none⟩=false):=by
 have hf:∀i,w.frozen? ⟨g,i,none⟩=false:=λi=>by unfold World.frozen?;rw [h];simp
 have hc:∀i,w.cell? ⟨g,i,none⟩=#[a0,a1,a2,a3,a4,a5,a6,a7,a8,a9,Ou][i]?:=λi=>aGu w g i _ t (0,0) h
 exact⟨⟨hc 0,hc 1,hc 2,hc 3,hc 4,hc 5,hc 6,hc 7,hc 8,hc 9,hc 10⟩,hf 0,hf 1,hf 2,hf 3,hf 4,hf 5,hf 6,hf 7,hf 8,hf 9,hf 10⟩
theorem lQ {w:World} {g:Nat} {a0 a1 a2 a3 a4 a5 a6 a7 a8 a9 Ou b0 b1 b2 b3 b4 b5 b6 b7 b8 b9 b10:Value} {t:TypeId} (h:w.heap[g]?=some (.cells #[a0,a1,a2,a3,a4,a5,a6,a7,a8,a9,Ou] t (0,0))):(((((((((((w.setCell ⟨g,0,none⟩ b0).setCell ⟨g,1,none⟩ b1).setCell ⟨g,2,none⟩ b2).setCell ⟨g,3,none⟩ b3).setCell ⟨g,4,none⟩ b4).setCell ⟨g,5,none⟩ b5).setCell ⟨g,6,none⟩ b6).setCell ⟨g,7,none⟩ b7).setCell ⟨g,8,none⟩ b8).setCell ⟨g,9,none⟩ b9).setCell ⟨g,10,none⟩ b10).heap[g]?=some (.cells #[b0,b1,b2,b3,b4,b5,b6,b7,b8,b9,b10] t (0,0)):=
 GR.setW_blk [b0,b1,b2,b3,b4,b5,b6,b7,b8,b9,b10] (o:=0) (xs:=[a0,a1,a2,a3,a4,a5,a6,a7,a8,a9,Ou]) h
theorem iR {a w:World} {B g:Nat} {b0 b1 b2 b3 b4 b5 b6 b7 b8 b9 b10:Value} (h:Below B a w) (hg:B<=g):Below B a (((((((((((w.setCell ⟨g,0,none⟩ b0).setCell ⟨g,1,none⟩ b1).setCell ⟨g,2,none⟩ b2).setCell ⟨g,3,none⟩ b3).setCell ⟨g,4,none⟩ b4).setCell ⟨g,5,none⟩ b5).setCell ⟨g,6,none⟩ b6).setCell ⟨g,7,none⟩ b7).setCell ⟨g,8,none⟩ b8).setCell ⟨g,9,none⟩ b9).setCell ⟨g,10,none⟩ b10):=
 GR.setW_below hg [b0,b1,b2,b3,b4,b5,b6,b7,b8,b9,b10] (o:=0) h
theorem Pw {w:World} {g:Nat} {a0 a1 a2 a3 a4 a5 a6 a7 a8 a9 Ou b4 b5 b6 b7 b8 b9 b10:Value} {t:TypeId} (h:w.heap[g]?=some (.cells #[a0,a1,a2,a3,a4,a5,a6,a7,a8,a9,Ou] t (0,0))):(((((((w.setCell ⟨g,4,none⟩ b4).setCell ⟨g,5,none⟩ b5).setCell ⟨g,6,none⟩ b6).setCell ⟨g,7,none⟩ b7).setCell ⟨g,8,none⟩ b8).setCell ⟨g,9,none⟩ b9).setCell ⟨g,10,none⟩ b10).heap[g]?=some (.cells #[a0,a1,a2,a3,b4,b5,b6,b7,b8,b9,b10] t (0,0)):=
 GR.setW_blk [b4,b5,b6,b7,b8,b9,b10] (o:=4) (xs:=[a0,a1,a2,a3,a4,a5,a6,a7,a8,a9,Ou]) h
theorem zV {a w:World} {B g:Nat} {b4 b5 b6 b7 b8 b9 b10:Value} (h:Below B a w) (hg:B<=g):Below B a (((((((w.setCell ⟨g,4,none⟩ b4).setCell ⟨g,5,none⟩ b5).setCell ⟨g,6,none⟩ b6).setCell ⟨g,7,none⟩ b7).setCell ⟨g,8,none⟩ b8).setCell ⟨g,9,none⟩ b9).setCell ⟨g,10,none⟩ b10):=
 GR.setW_below hg [b4,b5,b6,b7,b8,b9,b10] (o:=4) h
theorem zW {w:World} {g g':Nat} {b4 b5 b6 b7 b8 b9 b10:Value} (hne:g'≠g):(((((((w.setCell ⟨g,4,none⟩ b4).setCell ⟨g,5,none⟩ b5).setCell ⟨g,6,none⟩ b6).setCell ⟨g,7,none⟩ b7).setCell ⟨g,8,none⟩ b8).setCell ⟨g,9,none⟩ b9).setCell ⟨g,10,none⟩ b10).heap[g']?=w.heap[g']?:=
 GR.setW_other hne [b4,b5,b6,b7,b8,b9,b10] (o:=4)
theorem iL {P:Program} {fn:Func} {Q:Ending->World->Prop} {x:Exit} {act:Act} {W:World} (h:∀W',W'=W->bodyPost P fn Q x act W'):bodyPost P fn Q x act W:=h W rfl
theorem gQ (w:World) (a b:Obj):((w.alloc a).alloc b).heap[w.heap.size]?=some a/\((w.alloc a).alloc b).heap[w.heap.size+1]?=some b/\Below w.heap.size w ((w.alloc a).alloc b):=by
 have e1:(w.alloc a).heap.size=w.heap.size+1:=Aac
 have h4:=aGg (w.alloc a) b;have h6:=aGv (w.alloc a) b w.heap.size Aaa;rw [e1] at h4;exact⟨h6.trans (aGg w a),h4,(ay w a).alloc Aaa b⟩
theorem abE (w:World) (a b c:Obj):(((w.alloc a).alloc b).alloc c).heap[w.heap.size]?=some a/\(((w.alloc a).alloc b).alloc c).heap[w.heap.size+1]?=some b/\(((w.alloc a).alloc b).alloc c).heap[w.heap.size+1+1]?=some c/\Below w.heap.size w (((w.alloc a).alloc b).alloc c):=by
 exact azF
set_option maxRecDepth 100000
open Go.WideShapes
theorem adZ (m:Mg) (z:Int) (w:World) (h0:0<=z) (h1:z<=1048576) (h2:m.k.size<=maxLen):Calls Tryz.prog 44 #[oz m,.int .i64 z] w λe w'=>e= .returned (.int .i64 (if z - m.k.size < 0 then -1 else z - m.k.size))/\aI w w':=by
 obtain⟨K,F,T,I,L,k,N⟩:=m;dsimp only at h2;unfold maxLen at h2;by_cases hn:(z - k.size:Int) < 0
 all_goals
  go_in
  go_wp2_with fail
  go_ret
  exact⟨rfl,ay w _⟩
theorem aES (o:gW) (z:Int) (w:World) (h0:0<=z) (h1:z<=1048576) (h2:o.k.size<=maxLen) (h3:o.m.k.size<=maxLen):Calls Tryz.prog 99 #[jY o,.int .i64 z] w λe w'=>∃r:Int,e= .returned (.int .i64 r)/\(r= -1\/0<=r/\r<=z/\o.k.size<=1048576/\o.m.k.size<=1048576)/\aI w w':=by
 obtain⟨K,no,k,n,m⟩:=o;dsimp only at h2 h3;by_cases hn:(z - k.size:Int) < 0
 .obtain⟨mK,mF,mT,mI,mL,mk,mN⟩:=m;unfold maxLen at h2 h3;go_in
  go_wp2_with fail;go_ret;exact⟨_,rfl,.inl rfl,ay w _⟩
 .have HM:=Hq (λw1=>adZ m (z - k.size) w1 Aaa Aaa h3);have hks:k.size<=1048576:=Aaa
  have hmz:m.k.size<=9223372036854775807:=by unfold maxLen at h3;omega
  obtain⟨mK,mF,mT,mI,mL,mk,mN⟩:=m;dsimp only at hmz HM;clear h2 h3;go_in
  go_wp2_with fail;refine(HM _).mono ?_;by_cases hn2:(z - k.size - mk.size:Int) < 0
  .rw [aGC hn2];rintro e w1 ⟨rfl,hb1⟩;have HB:=Hq ((ay w _).trans (hb1.mono Aac));clear hb1 HM;go_wp2_with fail;go_ret;exact⟨_,rfl,.inl rfl,HB⟩
  .rw [aGr hn2];rintro e w1 ⟨rfl,hb1⟩;have HB:=Hq ((ay w _).trans (hb1.mono Aac));clear hb1 HM;go_wp2_with fail;go_ret;exact⟨_,rfl,.inr ⟨Aaa,Aaa,hks,Aaa⟩,HB⟩
theorem Pf (w:World) (a b c:Obj):(((w.alloc a).alloc b).alloc c).heap[w.heap.size]?=some a/\(((w.alloc a).alloc b).alloc c).heap[w.heap.size+1]?=some b/\(((w.alloc a).alloc b).alloc c).heap[w.heap.size+1+1]?=some c/\Below w.heap.size w (((w.alloc a).alloc b).alloc c):=by
 exact azF
theorem aET (o:gW) (w:World):Calls Tryz.prog 116 #[jY o] w (dZ w (jY o)):=by
 obtain⟨K,no,k,n,m⟩:=o;have HT:=Hq (λw1=>aj6 m w1);obtain⟨mK,mF,mT,mI,mL,mk,mN⟩:=m;go_in
 go_wp2_with fail;refine(HT _).mono ?_;rintro e w1 ⟨rfl,hb1⟩;obtain⟨hP,hR,hO,hB⟩:=Pf w (.cells (cu K no k n mK mF mT mI mL mk mN) 85) (.cells (cu 0 0 ⟨#[]⟩ 0 0 0 0 0 0 ⟨#[]⟩ 0) 100) (.cells (cu K no k n 0 0 0 0 0 ⟨#[]⟩ 0) 100);have HR:=Hq (aK hR hb1);have HO:=Hq (aK hO hb1);have HB:=Hq (hB.trans (hb1.mono hB.size));clear hP hR hO hB hb1 HT;have hz1:=dA HR;have hz2:=dA HO;obtain⟨⟨o0,o1,o2,o3,o4,o5,o6,o7,o8,o9,o10⟩,f0,f1,f2,f3,f4,f5,f6,f7,f8,f9,f10⟩:=aL HO;go_upto_region 7 with fail;refine wp_at (λW hW=>?_);have HOW:Hid (W.heap[w.heap.size+1+1]?=some (.cells (cu K no k n mK mF mT mI mL mk mN) 100 (0,0))):=by rw [hW];exact Pw HO
 have HRW:Hid (W.heap[w.heap.size+1]?=some (.cells (cu 0 0 ⟨#[]⟩ 0 0 0 0 0 0 ⟨#[]⟩ 0) 100 (0,0))):=by rw [hW];exact(zW Aaa).trans HR
 have jl:Hid (aI w W):=by rw [hW];exact zV HB Aaa
 clear hW HO HR HB hz1 hz2 o0 o1 o2 o3 o4 o5 o6 o7 o8 o9 o10 f0 f1 f2 f3 f4 f5 f6 f7 f8 f9 f10;have hz1:=dA HRW;have hz2:=dA HOW;obtain⟨⟨o0,o1,o2,o3,o4,o5,o6,o7,o8,o9,o10⟩,_⟩:=aL HOW;obtain⟨⟨r0,r1,r2,r3,r4,r5,r6,r7,r8,r9,r10⟩,f0,f1,f2,f3,f4,f5,f6,f7,f8,f9,f10⟩:=aL HRW;go_wp2_with fail;refine iL (λW' hW'=>?_);have hRR:W'.heap[w.heap.size+1]?=some (.cells (cu K no k n mK mF mT mI mL mk mN) 100 (0,0)):=by rw [hW'];exact lQ HRW
 have hBB:aI w W':=by rw [hW'];exact iR jl Aaa
 obtain⟨⟨x0,x1,x2,x3,x4,x5,x6,x7,x8,x9,x10⟩,_⟩:=aL hRR;exact aGn (v:= .agg (cu K no k n mK mF mT mI mL mk mN)) (by simp[results,Tryz.results116,go_sem,x0,x1,x2,x3,x4,x5,x6,x7,x8,x9,x10]) rfl ⟨rfl,hBB⟩
theorem Eh (K F T I L:Int) (k:ByteArray) (N:Int) (w:World) (_hs:k.size<=maxLen) (hr:nC F T=false):Calls Tryz.prog 144 #[oz ⟨K,F,T,I,L,k,N⟩] w (dZ w (.bool (cZ ⟨K,F,T,I,L,k,N⟩))):=by
 cases h1:uU F
 case' false=>
  have HP:=Hq (show cZ ⟨K,F,T,I,L,k,N⟩=false by simp[cZ,nC,h1]);have H1:=Hq (λw1=>nV F false w1 h1);clear h1 hr;exact ai8
 have H1:=Hq (λw1=>nV F true w1 h1);cases h2:uU T
 case' false=>
  have HP:=Hq (show cZ ⟨K,F,T,I,L,k,N⟩=false by simp[cZ,nC,h2]);have H2:=Hq (λw1=>nV T false w1 h2);clear h1 h2 hr;exact aiy
 have H2:=Hq (λw1=>nV T true w1 h2)
 have hft:F=T:=by
  rcases Decidable.em (F=T) with h|h
  .exact h
  .simp[nC,h1,h2,h] at hr
 have HP:=Hq (show cZ ⟨K,F,T,I,L,k,N⟩=false by simp[cZ,nC,hft]);clear h1 h2 hr;subst hft;exact ai8
theorem GJ (_K F T I L:Int) (k:ByteArray) (N:Int) (w:World) (hs:k.size<=maxLen) (hr:nC F T=true):Calls Tryz.prog 144 #[oz ⟨0,F,T,I,L,k,N⟩] w (dZ w (.bool (cZ ⟨0,F,T,I,L,k,N⟩))):=by
 open aoI in exact aeP
theorem Jl (_K F T I L:Int) (k:ByteArray) (N:Int) (w:World) (hs:k.size<=maxLen) (hr:nC F T=true):Calls Tryz.prog 144 #[oz ⟨1,F,T,I,L,k,N⟩] w (dZ w (.bool (cZ ⟨1,F,T,I,L,k,N⟩))):=by
 open aoH in exact aeP
theorem Jk (_K F T I L:Int) (k:ByteArray) (N:Int) (w:World) (hs:k.size<=maxLen) (hr:nC F T=true):Calls Tryz.prog 144 #[oz ⟨2,F,T,I,L,k,N⟩] w (dZ w (.bool (cZ ⟨2,F,T,I,L,k,N⟩))):=by
 open aoG in exact aeP
theorem GI (K F T I L:Int) (k:ByteArray) (N:Int) (w:World) (_hs:k.size<=maxLen) (hr:nC F T=true) (k0:¬K=0) (k1:¬K=1) (k2:¬K=2):Calls Tryz.prog 144 #[oz ⟨K,F,T,I,L,k,N⟩] w (dZ w (.bool (cZ ⟨K,F,T,I,L,k,N⟩))):=by
 open aoF in exact aeP
theorem kZ (m:Mg) (w:World) (hs:m.k.size<=maxLen):Calls Tryz.prog 144 #[oz m] w (dZ w (.bool (cZ m))):=by
 obtain⟨K,F,T,I,L,k,N⟩:=m;cases hr:nC F T
 .exact Eh K F T I L k N w hs hr
 by_cases k0:K=0
 .subst k0;exact GJ 0 F T I L k N w hs hr
 by_cases k1:K=1
 .subst k1;exact Jl 0 F T I L k N w hs hr
 by_cases k2:K=2
 .subst k2;exact Jk 0 F T I L k N w hs hr
 exact GI K F T I L k N w hs hr k0 k1 k2
theorem Jq (no:Int) (k:ByteArray) (n:Int) (m:Mg) (w:World) (hs:k.size<=maxLen):Calls Tryz.prog 105 #[jY ⟨0,no,k,n,m⟩] w (dZ w (.bool (cK ⟨0,no,k,n,m⟩))):=by
 obtain⟨mK,mF,mT,mI,mL,mk,mN⟩:=m;obtain⟨R,hR⟩:∃R,cK ⟨0,no,k,n,⟨mK,mF,mT,mI,mL,mk,mN⟩⟩=R:=⟨_,rfl⟩;exact akR
theorem Js (no:Int) (k:ByteArray) (n:Int) (m:Mg) (w:World) (hs:k.size<=maxLen):Calls Tryz.prog 105 #[jY ⟨3,no,k,n,m⟩] w (dZ w (.bool (cK ⟨3,no,k,n,m⟩))):=by
 obtain⟨mK,mF,mT,mI,mL,mk,mN⟩:=m;obtain⟨R,hR⟩:∃R,cK ⟨3,no,k,n,⟨mK,mF,mT,mI,mL,mk,mN⟩⟩=R:=⟨_,rfl⟩;exact akR
theorem Jm (no:Int) (k:ByteArray) (n:Int) (m:Mg) (w:World) (hs:k.size<=maxLen):Calls Tryz.prog 105 #[jY ⟨4,no,k,n,m⟩] w (dZ w (.bool (cK ⟨4,no,k,n,m⟩))):=by
 obtain⟨mK,mF,mT,mI,mL,mk,mN⟩:=m;obtain⟨R,hR⟩:∃R,cK ⟨4,no,k,n,⟨mK,mF,mT,mI,mL,mk,mN⟩⟩=R:=⟨_,rfl⟩;exact akR
theorem GL (no:Int) (k:ByteArray) (n:Int) (m:Mg) (w:World) (hs:k.size<=maxLen):Calls Tryz.prog 105 #[jY ⟨1,no,k,n,m⟩] w (dZ w (.bool (cK ⟨1,no,k,n,m⟩))):=by
 obtain⟨mK,mF,mT,mI,mL,mk,mN⟩:=m;obtain⟨R,hR⟩:∃R,cK ⟨1,no,k,n,⟨mK,mF,mT,mI,mL,mk,mN⟩⟩=R:=⟨_,rfl⟩;rw [hR];have HR:=Hq hR;clear hR;cases hk:keyOk k.data.toList
 .have HK:=Hq (λw1=>oJ k false w1 hs hk);cases hn:fO n
  .have HN:=Hq (λw1=>eU n false w1 hn);cases ho:fO no
   .have HO:=Hq (λw1=>eU no false w1 ho);have HP:=Hq (show R=(false&&false&&false&&lY ⟨mK,mF,mT,mI,mL,mk,mN⟩) by rw [<-ah HR];simp[cK,hk,hn,ho]);exact Pd
   .have HO:=Hq (λw1=>eU no true w1 ho);have HP:=Hq (show R=(false&&false&&true&&lY ⟨mK,mF,mT,mI,mL,mk,mN⟩) by rw [<-ah HR];simp[cK,hk,hn,ho]);exact Pd
  .have HN:=Hq (λw1=>eU n true w1 hn);cases ho:fO no
   .have HO:=Hq (λw1=>eU no false w1 ho);have HP:=Hq (show R=(false&&true&&false&&lY ⟨mK,mF,mT,mI,mL,mk,mN⟩) by rw [<-ah HR];simp[cK,hk,hn,ho]);exact Pd
   .have HO:=Hq (λw1=>eU no true w1 ho);have HP:=Hq (show R=(false&&true&&true&&lY ⟨mK,mF,mT,mI,mL,mk,mN⟩) by rw [<-ah HR];simp[cK,hk,hn,ho]);exact Pd
 .have HK:=Hq (λw1=>oJ k true w1 hs hk);cases hn:fO n
  .have HN:=Hq (λw1=>eU n false w1 hn);cases ho:fO no
   .have HO:=Hq (λw1=>eU no false w1 ho);have HP:=Hq (show R=(true&&false&&false&&lY ⟨mK,mF,mT,mI,mL,mk,mN⟩) by rw [<-ah HR];simp[cK,hk,hn,ho]);exact Pd
   .have HO:=Hq (λw1=>eU no true w1 ho);have HP:=Hq (show R=(true&&false&&true&&lY ⟨mK,mF,mT,mI,mL,mk,mN⟩) by rw [<-ah HR];simp[cK,hk,hn,ho]);exact Pd
  .have HN:=Hq (λw1=>eU n true w1 hn);cases ho:fO no
   .have HO:=Hq (λw1=>eU no false w1 ho);have HP:=Hq (show R=(true&&true&&false&&lY ⟨mK,mF,mT,mI,mL,mk,mN⟩) by rw [<-ah HR];simp[cK,hk,hn,ho]);exact Pd
   .have HO:=Hq (λw1=>eU no true w1 ho);have HP:=Hq (show R=(true&&true&&true&&lY ⟨mK,mF,mT,mI,mL,mk,mN⟩) by rw [<-ah HR];simp[cK,hk,hn,ho]);exact Pd
theorem CP (no:Int) (k:ByteArray) (n:Int) (m:Mg) (w:World) (_hs:k.size<=maxLen):Calls Tryz.prog 105 #[jY ⟨2,no,k,n,m⟩] w (dZ w (.bool (cK ⟨2,no,k,n,m⟩))):=by
 obtain⟨mK,mF,mT,mI,mL,mk,mN⟩:=m;obtain⟨R,hR⟩:∃R,cK ⟨2,no,k,n,⟨mK,mF,mT,mI,mL,mk,mN⟩⟩=R:=⟨_,rfl⟩;rw [hR];have HR:=Hq hR;clear hR;cases ho:fO no
 .have HO:=Hq (λw1=>eU no false w1 ho);have HP:=Hq (show R=(decide (k.toList=[])&&decide (n=0)&&false&&lY ⟨mK,mF,mT,mI,mL,mk,mN⟩) by rw [<-ah HR];simp[cK,ho]);exact aik
 .have HO:=Hq (λw1=>eU no true w1 ho);have HP:=Hq (show R=(decide (k.toList=[])&&decide (n=0)&&true&&lY ⟨mK,mF,mT,mI,mL,mk,mN⟩) by rw [<-ah HR];simp[cK,ho]);exact aik
theorem Jr (no:Int) (k:ByteArray) (n:Int) (m:Mg) (w:World) (_hs:k.size<=maxLen):Calls Tryz.prog 105 #[jY ⟨5,no,k,n,m⟩] w (dZ w (.bool (cK ⟨5,no,k,n,m⟩))):=by
 open auu in exact aha
theorem Jp (no:Int) (k:ByteArray) (n:Int) (m:Mg) (w:World) (hm:m.k.size<=maxLen):Calls Tryz.prog 105 #[jY ⟨6,no,k,n,m⟩] w (dZ w (.bool (cK ⟨6,no,k,n,m⟩))):=by
 have HM:=Hq (λw1=>kZ m w1 hm);open avN in exact ahv
theorem Jo (K no:Int) (k:ByteArray) (n:Int) (m:Mg) (w:World) (h0:¬K=0) (h1:¬K=1) (h2:¬K=2) (h3:¬K=3) (h4:¬K=4) (h5:¬K=5) (h6:¬K=6):Calls Tryz.prog 105 #[jY ⟨K,no,k,n,m⟩] w (dZ w (.bool (cK ⟨K,no,k,n,m⟩))):=by
 have HP:=Hq (show cK ⟨K,no,k,n,m⟩=false by simp[cK,h0,h1,h2,h3,h4,h5,h6]);obtain⟨mK,mF,mT,mI,mL,mk,mN⟩:=m;go_in
 go_wp2_with fail;exact xQ
theorem jO (o:gW) (w:World) (hs:o.k.size<=maxLen) (hm:o.m.k.size<=maxLen):Calls Tryz.prog 105 #[jY o] w (dZ w (.bool (cK o))):=by
 obtain⟨K,no,k,n,m⟩:=o;by_cases h0:K=0
 .subst h0;exact Jq no k n m w hs
 by_cases h1:K=1
 .subst h1;exact GL no k n m w hs
 by_cases h2:K=2
 .subst h2;exact CP no k n m w hs
 by_cases h3:K=3
 .subst h3;exact Js no k n m w hs
 by_cases h4:K=4
 .subst h4;exact Jm no k n m w hs
 by_cases h5:K=5
 .subst h5;exact Jr no k n m w hs
 by_cases h6:K=6
 .subst h6;exact Jp no k n m w hm
 exact Jo K no k n m w h0 h1 h2 h3 h4 h5 h6
theorem Jt (m:Mg) (w:World) (hs:m.k.size<=maxLen) (h:cZ m=false):Calls Tryz.prog 141 #[oz m] w (dZ w (.string ByteArray.empty)):=by
 have HO:=Hq (λw1=>kZ m w1 hs);rw [h] at HO;clear h hs;obtain⟨K,F,T,I,L,k,N⟩:=m;go_in
 exact aiL
theorem GQ (m:Mg) (w:World) (hs:m.k.size<=maxLen) (h:cZ m=true):Calls Tryz.prog 141 #[oz m] w (dZ w (.string (Av m))):=by
 have hK:=afI h;have HO:=Hq (λw1=>kZ m w1 hs);rw [h] at HO;clear h hs;obtain⟨K,F,T,I,L,k,N⟩:=m;obtain⟨hK0,hK2⟩:=hK;dsimp only at hK0 hK2
 have hw8:IntKind.u8.wrap K=K:=by
  have h3:K=0\/K=1\/K=2:=Aaa
  rcases h3 with rfl|rfl|rfl<;>rfl
 show Calls Tryz.prog 141 #[oz ⟨K,F,T,I,L,k,N⟩] w (dZ w (.string (kb K++mP F++mP T++mP I++mP L++oF k++mP N)))
 have N1:=Hq (λw1=>lT F w1);have N2:=Hq (λw1=>lT T w1);have N3:=Hq (λw1=>lT I w1);have N4:=Hq (λw1=>lT L w1);have N5:=Hq (λw1=>wU k w1);have N6:=Hq (λw1=>lT N w1);have s1:=nQ F;have s2:=nQ T;have s3:=nQ I;have s4:=nQ L;have s5:=CF k;have s6:=nQ N;have s0:=WX K;have HCV:=Hq (λw1 g=>Yc w1 g K ⟨hK0,hK2⟩);generalize mP F=bF at *;generalize mP T=bT at *;generalize mP I=bI at *;generalize mP L=bL at *;generalize oF k=bk at *;generalize mP N=bN at *;generalize kb K=bK at *;have a1:=λw1=>aHq (P:=Tryz.prog) w1 bK bF Aaa
 have a2:=λw1=>aHq (P:=Tryz.prog) w1 (bK++bF) bT (by rw [ByteArray.size_append];omega)
 have a3:=λw1=>aHq (P:=Tryz.prog) w1 (bK++bF++bT) bI Abo
 have a4:=λw1=>aHq (P:=Tryz.prog) w1 (bK++bF++bT++bI) bL Abo
 have a5:=λw1=>aHq (P:=Tryz.prog) w1 (bK++bF++bT++bI++bL) bk Abo
 have a6:=λw1=>aHq (P:=Tryz.prog) w1 (bK++bF++bT++bI++bL++bk) bN Abo
 have HA:=Hq (And.intro a1 (And.intro a2 (And.intro a3 (And.intro a4 (And.intro a5 a6)))));clear s0 s1 s2 s3 s4 s5 s6 a1 a2 a3 a4 a5 a6 hK0 hK2;go_in
 go_wp2_with fail;refine(HO _).mono ?_;rintro e w1 ⟨rfl,hb1⟩;have hA:=aK (aGg w _) hb1;have hB:=(ay w _).trans (hb1.mono Aac);obtain⟨c0,c1,c2,c3,c4,c5,c6⟩:=uG hA;have hz:=dA hA;clear hb1;go_upto_region 3 with fail;refine wp_at (λV hV=>?_);have hblk:V.heap[w.heap.size]?=some (.cells (bX K F T I L k N) 98 (0,0)):=by rw [hV];exact hA
 have wY:=Hq (show aI w V by rw [hV];exact hB);have hgV:=dA hblk;obtain⟨p0,p1,p2,p3,p4,p5,p6⟩:=uG hblk;clear hV hblk hA hB c0 c1 c2 c3 c4 c5 c6 hz;open aoZ in exact O4
theorem GN (m:Mg) (w:World) (hs:m.k.size<=maxLen):Calls Tryz.prog 141 #[oz m] w (dZ w (.string (jU m))):=by
 cases h:cZ m
 .rw [Cz h];exact Jt m w hs h
 .rw [za h];exact GQ m w hs h
theorem K9 (o:gW) (w:World) (hs:o.k.size<=maxLen) (hm:o.m.k.size<=maxLen):Calls Tryz.prog 142 #[jY o] w (dZ w (.bool (cK o))):=by
 have HO:=Hq (λw1=>jO o w1 hs hm);generalize cK o=r at *;obtain⟨K,no,k,n,⟨mK,mF,mT,mI,mL,mk,mN⟩⟩:=o;go_in
 exact aiI
theorem NH (o:gW) (w:World) (hs:o.k.size<=maxLen) (hm:o.m.k.size<=maxLen) (h:cK o=false):Calls Tryz.prog 104 #[jY o] w (dZ w (.string ByteArray.empty)):=by
 have HO:=Hq (λw1=>K9 o w1 hs hm);rw [h] at HO;clear h hs hm;obtain⟨K,no,k,n,⟨mK,mF,mT,mI,mL,mk,mN⟩⟩:=o;go_in
 exact aiL
theorem Ju (o:gW) (w:World) (hs:o.k.size<=maxLen) (hm:o.m.k.size<=maxLen) (h:cK o=true):Calls Tryz.prog 104 #[jY o] w (dZ w (.string (AO o))):=by
 have hK:=Y7 h;have HO:=Hq (λw1=>K9 o w1 hs hm);have NM:=Hq (λw1=>GN o.m w1 hm);rw [h] at HO;clear h hs hm;obtain⟨K,no,k,n,m⟩:=o;obtain⟨hK0,hK6⟩:=hK;dsimp only at hK0 hK6 NM;have hw8:=VF K hK0 hK6;show Calls Tryz.prog 104 #[jY ⟨K,no,k,n,m⟩] w (dZ w (.string (kb K++mP no++oF k++mP n++oF (jU m))))
 have N1:=Hq (λw1=>lT no w1);have N2:=Hq (λw1=>wU k w1);have N3:=Hq (λw1=>lT n w1);have N4:=Hq (λw1=>wU (jU m) w1);have s1:=nQ no;have s2:=CF k;have s3:=nQ n;have s4:=CF (jU m);have s0:=WX K;have HCV:=Hq (λw1 g=>TU w1 g K ⟨hK0,hK6⟩);generalize mP no=b1 at *;generalize oF k=b2 at *;generalize mP n=b3 at *;generalize oF (jU m)=b4 at *;generalize jU m=bM at *;generalize kb K=bK at *;obtain⟨mK,mF,mT,mI,mL,mk,mN⟩:=m;have a1:=λw1=>aHq (P:=Tryz.prog) w1 bK b1 Aaa
 have a2:=λw1=>aHq (P:=Tryz.prog) w1 (bK++b1) b2 Abo
 have a3:=λw1=>aHq (P:=Tryz.prog) w1 (bK++b1++b2) b3 Abo
 have a4:=λw1=>aHq (P:=Tryz.prog) w1 (bK++b1++b2++b3) b4 Abo
 have HA:=Hq (And.intro a1 (And.intro a2 (And.intro a3 a4)));clear s0 s1 s2 s3 s4 a1 a2 a3 a4 hK0 hK6;go_in
 go_wp2_with fail;refine(HO _).mono ?_;rintro e w1 ⟨rfl,hb1⟩;have hA:=aK (aGg w _) hb1;have hB:=(ay w _).trans (hb1.mono Aac);obtain⟨c0,c1,c2,c3,c4,c5,c6,c7,c8,c9,c10⟩:=WI hA;have hz:=dA hA;clear hb1;go_upto_region 3 with fail;refine wp_at (λV hV=>?_);have hblk:V.heap[w.heap.size]?=some (.cells (cu K no k n mK mF mT mI mL mk mN) 100 (0,0)):=by rw [hV];exact hA
 have wY:=Hq (show aI w V by rw [hV];exact hB);have hgV:=dA hblk;obtain⟨p0,p1,p2,p3,p4,p5,p6,p7,p8,p9,oU⟩:=WI hblk;clear hV hblk hA hB c0 c1 c2 c3 c4 c5 c6 c7 c8 c9 c10 hz;open ao0 in exact O4
theorem ZC (o:gW) (w:World) (hs:o.k.size<=maxLen) (hm:o.m.k.size<=maxLen):Calls Tryz.prog 104 #[jY o] w (dZ w (.string (wP o))):=by
 cases h:cK o
 .rw [QU h];exact NH o w hs hm h
 .rw [CB h];exact Ju o w hs hm h
def lq (s:ByteArray):Nat:=65536*(sums s.data.toList).2+(sums s.data.toList).1
theorem NY (s:ByteArray):lq s < 4294967296:=by
 have:=sums_lt s.data.toList;unfold lq;omega
def four (n:Nat):List UInt8:=[UInt8.ofNat (n / 16777216),UInt8.ofNat (n / 65536 % 256),UInt8.ofNat (n / 256 % 256),UInt8.ofNat (n % 256)]
def mW (n:Nat):ByteArray:=⟨(four n).toArray⟩
theorem J2 (w:World) (g n cap:Nat) (h:n < 4294967296) (c0:w.cell? ⟨g,0,none⟩=some (.int .u8 ((n:Int) / 16777216))) (c1:w.cell? ⟨g,1,none⟩=some (.int .u8 ((n:Int) / 65536 % 256)))
 (c2:w.cell? ⟨g,2,none⟩=some (.int .u8 ((n:Int) / 256 % 256))) (c3:w.cell? ⟨g,3,none⟩=some (.int .u8 ((n:Int) % 256))):
 (convert 162 9 (.slice (some ⟨g,0,none⟩) 4 cap)).run Tryz.prog w= .ok (.string (mW n)) w:=by
 refine aH3 (P:=Tryz.prog) w 162 9 5 ⟨g,0,none⟩ cap (four n) Tryz.underlying162 Tryz.underlying5 Tryz.underlying9 ?_;intro j hj;have hj4:j < 4:=hj;have hcase:j=0\/j=1\/j=2\/j=3:=Aaa
 rcases hcase with rfl|rfl|rfl|rfl
 .show w.cell? ⟨g,0,none⟩=_
  rw [c0];simp only[four,aH4];rw [toNat_byte _ Aaa];rfl
 .show w.cell? ⟨g,1,none⟩=_
  rw [c1];simp only[four,List.getElem_cons_succ,aH4];rw [toNat_byte _ Aaa];rfl
 .show w.cell? ⟨g,2,none⟩=_
  rw [c2];simp only[four,List.getElem_cons_succ,aH4];rw [toNat_byte _ Aaa];rfl
 .show w.cell? ⟨g,3,none⟩=_
  rw [c3];simp only[four,List.getElem_cons_succ,aH4];rw [toNat_byte _ Aaa];rfl
theorem afL (n:Nat) (h:n < 4294967296) (w:World):Calls Tryz.prog 55 #[.int .u32 n] w (dZ w (.string (mW n))):=by
 have hcv:=J2 (w.alloc (.cells #[.int .u8 ((n:Int) / 16777216),.int .u8 ((n:Int) / 65536 % 256),.int .u8 ((n:Int) / 256 % 256),.int .u8 ((n:Int) % 256)] 5)) w.heap.size n 4 h Aac Aac Aac Aac;go_in
 go_wp2_with fail;go_ret;exact⟨rfl,ay w _⟩
theorem adW (s:ByteArray) (hs:s.size<=maxLen) (w:World):Calls Tryz.prog 199 #[.string s] w λe w'=>∃g,e= .returned (.slice (some ⟨g,0,none⟩) 4 4)/\w.heap.size<=g/\w'.heap[g]?=some (.cells #[.int .u8 ((lq s:Int) / 16777216),.int .u8 ((lq s:Int) / 65536 % 256),.int .u8 ((lq s:Int) / 256 % 256),.int .u8 ((lq s:Int) % 256)] 5 (0,0))/\aI w w':=by
 have hn:=NY s;have HC:=Hq (λw1=>MC s w1 hs);have e:(65536*(sums s.data.toList).2+(sums s.data.toList).1:Int)=(lq s:Int):=by unfold lq;omega
 rw [e] at HC;clear e hs;generalize lq s=n at *;go_in
 go_wp2_with fail;refine(HC _).mono ?_;rintro e w1 ⟨rfl,rfl⟩;go_wp2_with fail;go_ret;exact⟨w.heap.size,rfl,aGh _,aGg w _,ay w _⟩
end Go.Proofs.YtohmklmkjmlpjaaGreatDoor
